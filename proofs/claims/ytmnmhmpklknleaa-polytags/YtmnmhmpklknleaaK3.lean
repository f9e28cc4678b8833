import Derived.Test.YtmnmhmpklknleaaK2
import Derived.Test.YtmnmhmpklknleaaK1
import Derived.Test.YtmnmhmpklknleaaRows

/-
  Plain arithmetic of digits to the base 2^26, by 2^130 - 5.
-/
namespace Go.Proofs.Ytmnmhmpklknleaa

def d26 (x j : Nat) : Nat := x / 2 ^ (26 * j) % 67108864
abbrev p5 (x : Nat) : Value := .agg (arr .u64 5 (d26 x))
theorem d26_lt (x j : Nat) : d26 x j < 67108864 := Nat.mod_lt _ (by decide)
def v26 (f : Nat → Nat) : Nat → Nat
  | 0 => 0
  | k + 1 => v26 f k + f k * 2 ^ (26 * k)

theorem v26_succ (f : Nat → Nat) (k : Nat) : v26 f (k + 1) = v26 f k + f k * 2 ^ (26 * k) := rfl

theorem pow_pos26 (k : Nat) : 0 < 2 ^ (26 * k) := Nat.pow_pos (by decide)
theorem pow_succ26 (k : Nat) : 2 ^ (26 * (k + 1)) = 2 ^ (26 * k) * 67108864 := by rw [show 26 * (k + 1) = 26 * k + 26 by omega, Nat.pow_add]
theorem v26_congr {f g : Nat → Nat} : ∀ k, (∀ j, j < k → f j = g j) → v26 f k = v26 g k
  | 0, _ => rfl
  | k + 1, h => by unfold v26; rw [v26_congr k (fun j hj => h j (by omega)), h k (by omega)]
theorem v26_lt (f : Nat → Nat) : ∀ k, (∀ j, j < k → f j < 67108864) → v26 f k < 2 ^ (26 * k)
  | 0, _ => by simp [v26]
  | k + 1, h => by
    have h1 := v26_lt f k (fun j hj => h j (by omega))
    have h2 := h k (by omega)
    unfold v26
    have h3 : f k * 2 ^ (26 * k) ≤ 67108863 * 2 ^ (26 * k) := Nat.mul_le_mul_right _ (by omega)
    rw [pow_succ26]; omega
theorem v26_d26 (x : Nat) : ∀ k, v26 (d26 x) k = x % 2 ^ (26 * k)
  | 0 => by simp [v26, Nat.mod_one]
  | k + 1 => by
    unfold v26
    rw [v26_d26 x k, pow_succ26, Nat.mod_mul, Nat.mul_comm (2 ^ (26 * k))]
    rfl
theorem v26_upd (f : Nat → Nat) (k v : Nat) : ∀ n, k < n → v26 (upd f k v) n + f k * 2 ^ (26 * k) = v26 f n + v * 2 ^ (26 * k)
  | 0, h => by omega
  | n + 1, h => by
    unfold v26
    by_cases e : k = n
    · subst e
      have h1 : v26 (upd f k v) k = v26 f k := v26_congr k fun j hj => by unfold upd; rw [if_neg (by omega)]
      have h2 : upd f k v k = v := by unfold upd; rw [if_pos rfl]
      rw [h1, h2]; omega
    · have ih := v26_upd f k v n (by omega)
      have h2 : upd f k v n = f n := by unfold upd; rw [if_neg (fun h => e h.symm)]
      rw [h2]; omega
theorem d26_low (s t i k : Nat) (h : i < k) : d26 (s + t * 2 ^ (26 * k)) i = d26 s i := by
  unfold d26
  have e : (2 : Nat) ^ (26 * k) = 2 ^ (26 * i) * (67108864 * 2 ^ (26 * (k - i - 1))) := by
    rw [show (67108864 : Nat) = 2 ^ 26 by decide, ← Nat.pow_add, ← Nat.pow_add]; congr 1; omega
  rw [e, ← Nat.mul_assoc, Nat.mul_comm t, Nat.mul_assoc, Nat.add_mul_div_left _ _ (pow_pos26 i), ← Nat.mul_assoc, Nat.mul_comm t, Nat.mul_assoc, Nat.add_mul_mod_self_left]
theorem d26_v26 (f : Nat → Nat) : ∀ n, (∀ j, j < n → f j < 67108864) → ∀ j, j < n → d26 (v26 f n) j = f j
  | 0, _, j, h => by omega
  | n + 1, hf, j, h => by
    have h1 := v26_lt f n (fun j hj => hf j (by omega))
    unfold v26
    by_cases e : j = n
    · subst e
      unfold d26
      rw [Nat.mul_comm (f j), Nat.add_mul_div_left _ _ (pow_pos26 j), Nat.div_eq_of_lt h1, Nat.zero_add]
      exact Nat.mod_eq_of_lt (hf j (by omega))
    · rw [d26_low _ _ j n (by omega)]
      exact d26_v26 f n (fun j hj => hf j (by omega)) j (by omega)
theorem v26_step {s : Nat → Nat} {j v : Nat} : v26 (upd s j v) (j + 1) = v26 s j + v * 2 ^ (26 * j) := by
  have := v26_upd s j v (j + 1) (by omega)
  have h2 : v26 s (j + 1) = v26 s j + s j * 2 ^ (26 * j) := rfl
  omega
theorem carry26 {s s2 : Nat → Nat} {j c : Nat} (h : v26 s2 j + c * 2 ^ (26 * j) = v26 s j) (hs : s2 j = s j) :
    v26 (upd s2 j ((c + s2 j) % 67108864)) (j + 1) + (c + s2 j) / 67108864 * 2 ^ (26 * (j + 1)) = v26 s (j + 1) := by
  rw [v26_step, pow_succ26]
  have h2 : v26 s (j + 1) = v26 s j + s j * 2 ^ (26 * j) := rfl
  rw [h2, ← hs, ← h]
  have e := Nat.div_add_mod (c + s2 j) 67108864
  have e2 : (c + s2 j) % 67108864 * 2 ^ (26 * j) + (c + s2 j) / 67108864 * (2 ^ (26 * j) * 67108864) = (c + s2 j) * 2 ^ (26 * j) := by
    conv => rhs; rw [← e]
    rw [Nat.add_mul, Nat.mul_comm 67108864, Nat.mul_assoc, Nat.mul_comm 67108864]
    omega
  rw [Nat.add_mul] at e2
  omega

def QQ : Nat := 2 ^ 130 - 5
theorem QQ_eq : QQ = 1361129467683753853853498429727072845819 := by decide
theorem QQ_pos : 0 < QQ := by decide
theorem v26_five (f : Nat → Nat) : v26 f 5 = f 0 + f 1 * 67108864 + f 2 * 4503599627370496 + f 3 * 302231454903657293676544 + f 4 * 20282409603651670423947251286016 := by
  simp only [v26]
  omega
/-- One round of carries: what is above comes in below, five times. -/
def bnd5 (k : Nat) : Nat := if k = 0 then 2 ^ 130 * 2 ^ 35 else if k = 1 then 2 ^ 130 + 2 ^ 38 else 2 ^ 130
theorem bnd5_next (T k : Nat) (h : T < bnd5 k) : T % 2 ^ 130 + 5 * (T / 2 ^ 130) < bnd5 (k + 1) := by
  unfold bnd5 at *
  by_cases h0 : k = 0
  · subst h0; simp at h ⊢; omega
  · by_cases h1 : k = 1
    · subst h1; simp at h ⊢; omega
    · rw [if_neg h0, if_neg h1] at h
      rw [if_neg (by omega), if_neg (by omega)]; omega
theorem round5 (T : Nat) : (T % 2 ^ 130 + 5 * (T / 2 ^ 130)) % QQ = T % QQ := by
  have e := Nat.div_add_mod T (2 ^ 130)
  generalize T / 2 ^ 130 = h at *
  generalize T % 2 ^ 130 = l at *
  have e3 : T = l + 5 * h + QQ * h := by rw [QQ_eq]; omega
  rw [e3, Nat.add_mul_mod_self_left]
theorem v26_bound (f : Nat → Nat) (hf : ∀ j, j < 5 → f j < 2 ^ 60) : v26 f 5 < bnd5 0 := by
  rw [v26_five]
  have h0 := hf 0 (by decide)
  have h1 := hf 1 (by decide)
  have h2 := hf 2 (by decide)
  have h3 := hf 3 (by decide)
  have h4 := hf 4 (by decide)
  unfold bnd5
  simp
  omega
theorem p5_of {f : Nat → Nat} {x : Nat} (hf : ∀ j, j < 5 → f j < 67108864) (h : v26 f 5 = x) : Value.agg (arr .u64 5 f) = p5 x := by
  rw [p5, ← h]
  congr 1
  exact arr_congr fun j hj => (d26_v26 f 5 hf j hj).symm

end Go.Proofs.Ytmnmhmpklknleaa

/-
  Plain arithmetic of the one-time sum: words to digits of 26 bits and back, carries, products by 2^130 - 5.
-/
namespace Go.Proofs.Ytmnmhmpklknleaa

theorem m26 (x : Nat) : (x &&& 67108863) % 18446744073709551616 = x % 67108864 := by
  have h := Nat.and_two_pow_sub_one_eq_mod x 26
  rw [show (2 : Nat) ^ 26 - 1 = 67108863 by decide] at h
  rw [h]
  have : x % 2 ^ 26 < 2 ^ 26 := Nat.mod_lt _ (by decide)
  rw [Nat.mod_eq_of_lt (by omega)]
theorem orW (a b k : Nat) (hk : k ≤ 64) (ha : a < 2 ^ k) : (a ||| b * 2 ^ k % 18446744073709551616) % 18446744073709551616 = (a + b * 2 ^ k) % 18446744073709551616 := by
  have e64 : (18446744073709551616 : Nat) = 2 ^ (64 - k) * 2 ^ k := by rw [← Nat.pow_add, Nat.sub_add_cancel hk]
  have hb : b * 2 ^ k % 18446744073709551616 = b % 2 ^ (64 - k) * 2 ^ k := by rw [e64, Nat.mul_mod_mul_right]
  have ho : a ||| b % 2 ^ (64 - k) * 2 ^ k = a + b % 2 ^ (64 - k) * 2 ^ k := by
    rw [Nat.or_comm, Nat.mul_comm, ← Nat.two_pow_add_eq_or_of_lt ha, Nat.add_comm]
  rw [hb, ho, ← hb, Nat.add_mod_mod]

def w3 (f : Nat → Nat) : Nat := f 0 + f 1 * 2 ^ 64 + f 2 * 2 ^ 128
section
variable {f : Nat → Nat}
theorem w3_lt (h0 : f 0 < 18446744073709551616) (h1 : f 1 < 18446744073709551616) (h2 : f 2 < 4) : w3 f < 2 ^ 130 := by unfold w3; omega
theorem po0 : (f 0 &&& 67108863) % 18446744073709551616 = d26 (w3 f) 0 := by
  rw [m26]; unfold d26 w3; simp only [Nat.mul_zero, Nat.pow_zero, Nat.div_one]; omega
theorem po1 : (f 0 / 2 ^ 26 &&& 67108863) % 18446744073709551616 = d26 (w3 f) 1 := by
  rw [m26]; unfold d26 w3; simp only [Nat.reduceMul]; omega
theorem po2 (h0 : f 0 < 18446744073709551616) : ((f 0 / 2 ^ 52 ||| f 1 * 2 ^ 12 % 18446744073709551616) % 18446744073709551616 &&& 67108863) % 18446744073709551616 = d26 (w3 f) 2 := by
  rw [m26, orW _ _ 12 (by decide) (by omega)]; unfold d26 w3; simp only [Nat.reduceMul]; omega
theorem po3 (h0 : f 0 < 18446744073709551616) : (f 1 / 2 ^ 14 &&& 67108863) % 18446744073709551616 = d26 (w3 f) 3 := by
  rw [m26]; unfold d26 w3; simp only [Nat.reduceMul]; omega
theorem po4 (h0 : f 0 < 18446744073709551616) (h1 : f 1 < 18446744073709551616) (h2 : f 2 < 4) : (f 1 / 2 ^ 40 ||| f 2 * 2 ^ 24 % 18446744073709551616) % 18446744073709551616 = d26 (w3 f) 4 := by
  rw [orW _ _ 24 (by decide) (by omega)]; unfold d26 w3; simp only [Nat.reduceMul]; omega
end
section
variable {x : Nat}
theorem x_five (hx : x < 2 ^ 130) : x = d26 x 0 + d26 x 1 * 67108864 + d26 x 2 * 4503599627370496 + d26 x 3 * 302231454903657293676544 + d26 x 4 * 20282409603651670423947251286016 := by
  have h := v26_d26 x 5
  rw [v26_five] at h
  rw [h]
  exact (Nat.mod_eq_of_lt hx).symm
theorem wh0 (hx : x < 2 ^ 130) : ((d26 x 0 ||| d26 x 1 * 2 ^ 26 % 18446744073709551616) % 18446744073709551616 ||| d26 x 2 * 2 ^ 52 % 18446744073709551616) % 18446744073709551616 = wd x 0 := by
  have e := x_five hx
  have l0 := d26_lt x 0
  have l1 := d26_lt x 1
  have l2 := d26_lt x 2
  have l3 := d26_lt x 3
  rw [orW _ _ 26 (by decide) (by omega), orW _ _ 52 (by decide) (by omega)]
  unfold wd
  generalize d26 x 0 = a at *
  generalize d26 x 1 = b at *
  generalize d26 x 2 = c at *
  generalize d26 x 3 = d at *
  generalize d26 x 4 = g at *
  simp only [Nat.mul_zero, Nat.pow_zero, Nat.div_one]
  omega
theorem wh1 (hx : x < 2 ^ 130) : ((d26 x 2 / 2 ^ 12 ||| d26 x 3 * 2 ^ 14 % 18446744073709551616) % 18446744073709551616 ||| d26 x 4 * 2 ^ 40 % 18446744073709551616) % 18446744073709551616 = wd x 1 := by
  have e := x_five hx
  have l0 := d26_lt x 0
  have l1 := d26_lt x 1
  have l2 := d26_lt x 2
  have l3 := d26_lt x 3
  rw [orW _ _ 14 (by decide) (by omega), orW _ _ 40 (by decide) (by omega)]
  unfold wd
  generalize d26 x 0 = a at *
  generalize d26 x 1 = b at *
  generalize d26 x 2 = c at *
  generalize d26 x 3 = d at *
  generalize d26 x 4 = g at *
  simp only [Nat.reduceMul]
  omega
theorem wh2 (hx : x < 2 ^ 130) : d26 x 4 / 2 ^ 24 = wd x 2 := by
  have e := x_five hx
  have l0 := d26_lt x 0
  have l1 := d26_lt x 1
  have l2 := d26_lt x 2
  have l3 := d26_lt x 3
  have l4 := d26_lt x 4
  unfold wd
  generalize d26 x 0 = a at *
  generalize d26 x 1 = b at *
  generalize d26 x 2 = c at *
  generalize d26 x 3 = d at *
  generalize d26 x 4 = g at *
  simp only [Nat.reduceMul]
  omega
end
/-- After one round of carries. -/
theorem rnd_end5 {s s2 : Nat → Nat} {c : Nat} (h : v26 s2 5 + c * 2 ^ (26 * 5) = v26 s 5) (hl : ∀ j, j < 5 → s2 j < 67108864) : v26 s2 5 = v26 s 5 % 2 ^ 130 ∧ c = v26 s 5 / 2 ^ 130 := by
  have h1 := v26_lt s2 5 hl
  simp only [Nat.reduceMul] at h h1
  generalize v26 s2 5 = A at *
  generalize v26 s 5 = B at *
  omega
theorem rnd_next5 {s s2 : Nat → Nat} {c : Nat} (h : v26 s2 5 + c * 2 ^ (26 * 5) = v26 s 5) (hl : ∀ j, j < 5 → s2 j < 67108864) : v26 (upd s2 0 (s2 0 + 5 * c)) 5 = v26 s 5 % 2 ^ 130 + 5 * (v26 s 5 / 2 ^ 130) := by
  obtain ⟨h1, h2⟩ := rnd_end5 h hl
  have h3 := v26_upd s2 0 (s2 0 + 5 * c) 5 (by decide)
  rw [Nat.mul_zero, Nat.pow_zero, Nat.mul_one, Nat.mul_one] at h3
  rw [← h1, ← h2]
  omega
theorem rnd_last {s s2 : Nat → Nat} {c k : Nat} (h : v26 s2 5 + c * 2 ^ (26 * 5) = v26 s 5) (hl : ∀ j, j < 5 → s2 j < 67108864) (hb : v26 s 5 < bnd5 k) : k + 1 = 3 → ∀ j, j < 5 → upd s2 0 (s2 0 + 5 * c) j < 67108864 := by
  intro hk j hj
  have hk2 : k = 2 := by omega
  subst hk2
  have h1 := (rnd_end5 h hl).2
  have h2 : c = 0 := by rw [h1]; exact Nat.div_eq_of_lt hb
  subst h2
  unfold upd
  split
  · exact hl 0 (by decide)
  · exact hl j hj
theorem rnd_small {s2 : Nat → Nat} {c : Nat} (hl : ∀ j, j < 5 → s2 j < 67108864) (hc : c < 34359738368) : ∀ j, j < 5 → upd s2 0 (s2 0 + 5 * c) j < 1152921504606846976 := by
  intro j hj
  have h1 := hl j hj
  have h2 := hl 0 (by decide)
  unfold upd
  split <;> omega
theorem upd_off {f : Nat → Nat} {j v t : Nat} (h : t ≠ j) : upd f j v t = f t := by unfold upd; rw [if_neg h]
theorem upd_on {f : Nat → Nat} {j v : Nat} : upd f j v j = v := by unfold upd; rw [if_pos rfl]
theorem mod_below {s : Nat → Nat} {k v : Nat} (h : ∀ j, j < k → s j < 67108864) : ∀ j, j < k + 1 → upd s k (v % 67108864) j < 67108864 := by
  intro j hj
  unfold upd
  split
  · exact Nat.mod_lt _ (by decide)
  · exact h j (by omega)
theorem q_start {s : Nat → Nat} : v26 (upd s 0 (s 0 + 5)) 5 = v26 s 5 + 5 := by
  have h := v26_upd s 0 (s 0 + 5) 5 (by decide)
  rw [Nat.mul_zero, Nat.pow_zero, Nat.mul_one, Nat.mul_one] at h
  omega
theorem q_low {q : Nat → Nat} {i v w : Nat} (h : ∀ j, j < i → q j < 67108864) : ∀ j, j < i + 1 → upd (upd q (i + 1) v) i (w % 67108864) j < 67108864 := by
  intro j hj
  unfold upd
  split
  · exact Nat.mod_lt _ (by decide)
  · rw [if_neg (by omega)]; exact h j (by omega)
theorem q_high {q : Nat → Nat} {i v w : Nat} (h : ∀ j, i < j → j < 5 → q j < 67108864) : ∀ j, i + 1 < j → j < 5 → upd (upd q (i + 1) v) i w j < 67108864 := by
  intro j hj h5
  unfold upd
  rw [if_neg (by omega), if_neg (by omega)]
  exact h j (by omega) h5
theorem q_here {q : Nat → Nat} {i w : Nat} (hi : i < 4) (h : ∀ j, i < j → j < 5 → q j < 67108864) (h2 : q i < 67108869) : upd (upd q (i + 1) (q (i + 1) + q i / 67108864)) i w (i + 1) < 67108869 := by
  unfold upd
  rw [if_neg (by omega), if_pos rfl]
  have := h (i + 1) (by omega) (by omega)
  omega
theorem q_step {q : Nat → Nat} {i : Nat} (hi : i < 4) : v26 (upd (upd q (i + 1) (q (i + 1) + q i / 67108864)) i (q i % 67108864)) 5 = v26 q 5 := by
  have h : i = 0 ∨ i = 1 ∨ i = 2 ∨ i = 3 := by omega
  rw [v26_five, v26_five]
  rcases h with rfl | rfl | rfl | rfl <;> simp [upd] <;> omega
theorem top5 {q : Nat → Nat} {T : Nat} (hq : v26 q 5 = T + 5) (hl : ∀ j, j < 4 → q j < 67108864) (hT : T < 2 ^ 130) : (0 < q 4 / 2 ^ 26 ↔ QQ ≤ T) ∧ (QQ ≤ T → v26 (upd q 4 (q 4 % 67108864)) 5 = T % QQ) := by
  have h4 := v26_lt q 4 (fun j hj => hl j hj)
  have e : v26 q 5 = v26 q 4 + q 4 * 2 ^ (26 * 4) := rfl
  have e2 := v26_upd q 4 (q 4 % 67108864) 5 (by decide)
  rw [QQ_eq]
  simp only [Nat.reduceMul] at *
  generalize v26 q 4 = A at *
  generalize v26 (upd q 4 (q 4 % 67108864)) 5 = B at *
  generalize q 4 = g at *
  omega
/-- One product more: what is above comes in below. -/
theorem pw5 (n t : Nat) (ht : 5 ≤ t) : n * 5 * 2 ^ (26 * (t - 5)) % QQ = n * 2 ^ (26 * t) % QQ := by
  have e : 2 ^ (26 * t) = 2 ^ 130 * 2 ^ (26 * (t - 5)) := by rw [← Nat.pow_add]; congr 1; omega
  have e2 : (2 : Nat) ^ 130 = 5 + QQ := by rw [QQ_eq]
  rw [e, e2, Nat.add_mul, Nat.mul_add, Nat.mul_assoc, show n * (QQ * 2 ^ (26 * (t - 5))) = QQ * (n * 2 ^ (26 * (t - 5))) by rw [Nat.mul_left_comm], Nat.add_mul_mod_self_left]
theorem tm_step {s d e : Nat → Nat} {i j y n : Nat} (hi : i < 5) (hj : j < 5) (h : v26 s 5 % QQ = (v26 d i * y + d i * v26 e j * 2 ^ (26 * i)) % QQ)
    (hn : n = if 5 ≤ i + j then d i * e j * 5 else d i * e j) :
    v26 (upd s ((i + j) % 5) (s ((i + j) % 5) + n)) 5 % QQ = (v26 d i * y + d i * v26 e (j + 1) * 2 ^ (26 * i)) % QQ := by
  have h1 := v26_upd s ((i + j) % 5) (s ((i + j) % 5) + n) 5 (Nat.mod_lt _ (by decide))
  rw [Nat.add_mul] at h1
  have h2 : v26 (upd s ((i + j) % 5) (s ((i + j) % 5) + n)) 5 = v26 s 5 + n * 2 ^ (26 * ((i + j) % 5)) := by omega
  have h3 : n * 2 ^ (26 * ((i + j) % 5)) % QQ = d i * e j * 2 ^ (26 * (i + j)) % QQ := by
    rw [hn]
    by_cases h5 : 5 ≤ i + j
    · rw [if_pos h5, show (i + j) % 5 = i + j - 5 by omega]
      exact pw5 _ _ h5
    · rw [if_neg h5, show (i + j) % 5 = i + j by omega]
  have h4 : d i * v26 e (j + 1) * 2 ^ (26 * i) = d i * v26 e j * 2 ^ (26 * i) + d i * e j * 2 ^ (26 * (i + j)) := by
    rw [v26_succ, Nat.mul_add, Nat.add_mul, Nat.mul_add 26 i j, Nat.pow_add, ← Nat.mul_assoc (d i) (e j), Nat.mul_assoc (d i * e j), Nat.mul_comm (2 ^ (26 * j))]
  rw [h2, h4, ← Nat.add_assoc, Nat.add_mod, h, h3, ← Nat.add_mod]
theorem tm_row {d e : Nat → Nat} {i y : Nat} (hy : v26 e 5 = y) : v26 d i * y + d i * v26 e 5 * 2 ^ (26 * i) = v26 d (i + 1) * y + d (i + 1) * v26 e 0 * 2 ^ (26 * (i + 1)) := by
  rw [hy, v26_succ, Nat.add_mul, show v26 e 0 = 0 from rfl, Nat.mul_zero, Nat.zero_mul, Nat.add_zero, Nat.mul_assoc, Nat.mul_comm y, ← Nat.mul_assoc]
theorem tm_end {x y : Nat} (hx : x < 2 ^ 130) : v26 (d26 x) 5 * y + d26 x 5 * v26 (d26 y) 0 * 2 ^ (26 * 5) = x * y := by
  rw [v26_d26 x 5, Nat.mod_eq_of_lt hx, show v26 (d26 y) 0 = 0 from rfl, Nat.mul_zero, Nat.zero_mul, Nat.add_zero]
theorem tm_le {x y i j : Nat} : d26 x i * d26 y j ≤ 4503599493152769 := Nat.mul_le_mul (show d26 x i ≤ 67108863 by have := d26_lt x i; omega) (show d26 y j ≤ 67108863 by have := d26_lt y j; omega)
theorem tm_bnd {s : Nat → Nat} {r m n B : Nat} (hr : r < 5) (h : ∀ t, t < 5 → s t ≤ m * B) (hn : n ≤ B) : ∀ t, t < 5 → upd s r (s r + n) t ≤ (m + 1) * B := by
  intro t ht
  have h1 := h t ht
  have h2 := h r hr
  rw [Nat.succ_mul]
  unfold upd
  split <;> omega

end Go.Proofs.Ytmnmhmpklknleaa

/-
  Blocks of cells of any kinds, as functions of the place; structs.
-/
namespace Go.Proofs.Ytmnmhmpklknleaa
open Go Go.RowKit

def arrv (n : Nat) (F : Nat → Value) : Array Value := ((List.range n).map F).toArray
def updv (F : Nat → Value) (j : Nat) (v : Value) : Nat → Value := fun i => if i = j then v else F i
/-- l cells from o on are others. -/
def putv (F : Nat → Value) (o l : Nat) (A : Nat → Value) : Nat → Value := fun i => if o ≤ i ∧ i < o + l then A (i - o) else F i
theorem arr_arrv (k : IntKind) (n : Nat) (f : Nat → Nat) : arr k n f = arrv n (fun i => .int k (f i : Int)) := rfl
theorem arrv_size (n : Nat) (F : Nat → Value) : (arrv n F).size = n := by simp [arrv]
theorem arrv_get {n j : Nat} {F : Nat → Value} (h : j < n) : (arrv n F)[j]? = some (F j) := by simp [arrv, h]
theorem arrv_nth {n j : Nat} {F : Nat → Value} (h : j < n) : (arrv n F).toList[j]? = some (F j) := by simp [arrv, h]
theorem arrv_congr {n : Nat} {F H : Nat → Value} (h : ∀ j, j < n → F j = H j) : arrv n F = arrv n H := by
  unfold arrv
  congr 1
  exact List.map_congr_left fun i hi => h i (by simpa using hi)
theorem arrv_set {n : Nat} {F : Nat → Value} (j : Nat) (v : Value) : (arrv n F).setIfInBounds j v = arrv n (updv F j v) := by
  apply Array.ext
  · simp [arrv_size]
  · intro i h1 h2
    have hi : i < n := by simpa [arrv_size] using h2
    by_cases e : j = i
    · subst e; simp [arrv, updv]
    · have e' : ¬ i = j := fun h => e h.symm
      simp [arrv, updv, e, e']
theorem arrv_part (N o l : Nat) (F : Nat → Value) (h : o + l ≤ N) : (arrv N F).extract o (o + l) = arrv l (fun t => F (o + t)) := by
  apply Array.ext
  · simp [arrv]; omega
  · intro i h1 h2
    simp [arrv]
theorem arrv_put (N o l : Nat) (F A : Nat → Value) (h : o + l ≤ N) : ((arrv N F).toList.take o ++ (arrv l A).toList ++ (arrv N F).toList.drop (o + l)).toArray = arrv N (putv F o l A) := by
  apply Array.ext
  · simp [arrv]; omega
  · intro j h1 h2
    have hj : j < N := by simpa [arrv] using h2
    simp only [List.getElem_toArray]
    by_cases ha : j < o
    · rw [List.getElem_append_left (by simp [arrv]; omega), List.getElem_append_left (by simp [arrv]; omega)]
      simp [arrv, putv, show ¬ (o ≤ j ∧ j < o + l) by omega]
    · by_cases hb : j < o + l
      · rw [List.getElem_append_left (by simp [arrv]; omega), List.getElem_append_right (by simp [arrv]; omega)]
        have h5 : min o N = o := by omega
        simp [arrv, putv, h5, show o ≤ j ∧ j < o + l by omega]
      · rw [List.getElem_append_right (by simp [arrv]; omega)]
        have h5 : min o N = o := by omega
        simp [arrv, putv, h5, show ¬ (o ≤ j ∧ j < o + l) by omega]
        congr 1
        omega
theorem setRow_blk {w : World} {b : Nat} {c' : Array Value} {t : TypeId} : w.setRow b c' = setBlk w ⟨b, c', t⟩ := rfl

section
variable {P : Program} {G : Mem} {R : Reg} {ops : Array Oper} {K : Act → Mem → Prop} {rest : List Oper} {a : Act} {m : Mem} {d : Option Tmp} {ty : TypeId} {pos : String} {aft : Array Edge}
variable {T T' : TypeId} {x y : Operand}
/-- A store into a part of a block. -/
theorem st_storeP {b o i l N : Nat} {F A : Nat → Value} {t : TypeId} (hs : (P.info? T).map (·.size) = some l) (hx : a.eval x = .pointer (some ⟨b, o, none⟩)) (hy : a.eval y = .agg (arrv l A)) (hA : ∀ j, j < l → (A j).oneCell' = true)
    (hm : m[i]? = some ⟨b, arrv N F, t⟩) (hX : R.X = [] ∨ b ∈ R.X) (ho : o + l ≤ N) (h : opsM P G R ops K rest (a.put d undef) (m.set i ⟨b, arrv N (putv F o l A), t⟩)) : opsM P G R ops K (⟨d, .store T x y, ty, pos, aft, none⟩ :: rest) a m :=
  store_at hm hX (arrv N (putv F o l A)) (by simp [arrv_size]) (fun w hin => by
    have hst := run_storeCells_in (P := P) b o t (arrv l A).toList 0 (arrv N F) w hin (by simp [arrv_size]; omega) (fun v hv => by
      simp [arrv] at hv
      obtain ⟨j, hj, rfl⟩ := hv
      exact hA j hj)
    have hl : (arrv l A).toList.length = l := by simp [arrv]
    rw [hl, Nat.add_zero, arrv_put N o l F A ho, setRow_blk (t := t)] at hst
    cases hi : P.info? T with
    | none => simp [hi] at hs
    | some j =>
      have hsz : j.size = l := by simpa [hi] using hs
      simp only [execOp, Instr.storeAt, hx, hy, Instr.sureAddr, storeVar, sizeOf, typeInfo]
      simp [hi, hsz, Value.cells, arrv_size, hst]) h
end
section
variable {P : Program} {G : Mem} {R : Reg} {ops : Array Oper} {n : Nat} {K : Env → Mm → Prop} {rest : List Oper} {E : Env} {M : Mm} {d : Nat} {ty : TypeId} {pos : String} {aft : Array Edge}
variable {T T' : TypeId} {x y : Operand}
theorem e_ldP {b i o l N : Nat} {F : Nat → Value} {t : TypeId} {td : TypeDesc} (hT : P.underlying T = some td) (hn : rowLike td = true) (hs : (P.info? T).map (·.size) = some l)
    (hx : rd E x = some (.pointer (some ⟨b, o, none⟩))) (hm : lkM M i = some ⟨b, arrv N F, t⟩) (ho : o + l ≤ N) (hd : Nat.blt d n = true) (hX : ∃ js, okX M i js R.X) (h : OpsE P G R ops n K rest ((d, .agg (arrv l (fun t => F (o + t)))) :: E) M) :
    OpsE P G R ops n K (⟨some d, .load T x, ty, pos, aft, none⟩ :: rest) E M :=
  fun _ _ ha hM => by
    obtain ⟨j, hj⟩ := hM.at hm
    obtain ⟨js, hjs⟩ := hX
    exact st_loadS hT hn hs (ha.rd hx) hj (okX_not hM hm hjs) (by rw [arrv_size]; exact ho) (by rw [arrv_part N o l F ho]; exact h _ _ (ha.put hd _) hM)
theorem e_st1 {b o i N : Nat} {F : Nat → Value} {v : Value} {t : TypeId} (hs : (P.info? T).map (·.size) = some 1) (hx : rd E x = some (.pointer (some ⟨b, o, none⟩))) (hy : rd E y = some v) (hv : v.oneCell' = true)
    (hm : lkM M i = some ⟨b, arrv N F, t⟩) (ho : o < N) (hX : R.X = [] ∨ b ∈ R.X) (h : OpsE P G R ops n K rest E ((i, some ⟨b, arrv N (updv F o v), t⟩) :: M)) : OpsE P G R ops n K (⟨none, .store T x y, ty, pos, aft, none⟩ :: rest) E M :=
  fun _ _ ha hM => by
    obtain ⟨j, hj⟩ := hM.at hm
    exact st_store1 hs (ha.rd hx) (ha.rd hy) hv hj hX (by rw [arrv_size]; exact ho) (by rw [arrv_set]; exact h _ _ ha (hM.store hm hj _))
theorem e_stP {b o i l N : Nat} {F A : Nat → Value} {t : TypeId} (hs : (P.info? T).map (·.size) = some l) (hx : rd E x = some (.pointer (some ⟨b, o, none⟩))) (hy : rd E y = some (.agg (arrv l A))) (hA : ∀ j, j < l → (A j).oneCell' = true)
    (hm : lkM M i = some ⟨b, arrv N F, t⟩) (ho : o + l ≤ N) (hX : R.X = [] ∨ b ∈ R.X) (h : OpsE P G R ops n K rest E ((i, some ⟨b, arrv N (putv F o l A), t⟩) :: M)) : OpsE P G R ops n K (⟨none, .store T x y, ty, pos, aft, none⟩ :: rest) E M :=
  fun _ _ ha hM => by
    obtain ⟨j, hj⟩ := hM.at hm
    exact st_storeP hs (ha.rd hx) (ha.rd hy) hA hj hX ho (h _ _ ha (hM.store hm hj _))
/-- A block is as another one, as is known. -/
theorem e_blk {l : List Oper} {s b : Nat} {c c' : Array Value} {t : TypeId} (hc : c = c') (h : OpsE P G R ops n K l E ((s, some ⟨b, c', t⟩) :: M)) : OpsE P G R ops n K l E ((s, some ⟨b, c, t⟩) :: M) := by rw [hc]; exact h
end
end Go.Proofs.Ytmnmhmpklknleaa

/-
  Structs as rows of parts: each part a row of cells; loads, stores and equality by parts.
-/
namespace Go.Proofs.Ytmnmhmpklknleaa
open Go Go.RowKit

abbrev Part := Nat × (Nat → Value)
def catF : List Part → Nat → Value
  | [], _ => .bool false
  | p :: ps, i => if i < p.1 then p.2 i else catF ps (i - p.1)
def catAt : List Part → Nat → Option (Nat × Part)
  | [], _ => none
  | p :: _, 0 => some (0, p)
  | p :: ps, k + 1 => match catAt ps k with
    | none => none
    | some q => some (p.1 + q.1, q.2)
def catSet : List Part → Nat → (Nat → Value) → List Part
  | [], _, _ => []
  | p :: ps, 0, F => (p.1, F) :: ps
  | p :: ps, k + 1, F => p :: catSet ps k F
def catOk : List Part → Prop
  | [] => True
  | p :: ps => (∀ i, (p.2 i).oneCell' = true) ∧ catOk ps
abbrev pI (k : IntKind) (l : Nat) (f : Nat → Nat) : Part := (l, fun i => .int k (f i : Int))
abbrev pV (v : Value) : Part := (1, fun _ => v)
/-- A struct's cells. -/
abbrev cells (N : Nat) (ps : List Part) : Array Value := arrv N (catF ps)

theorem cat_part : ∀ {ps : List Part} {k o l : Nat} {F : Nat → Value}, catAt ps k = some (o, l, F) → ∀ t, t < l → catF ps (o + t) = F t
  | [], _, _, _, _, h, _, _ => by simp [catAt] at h
  | p :: ps, 0, o, l, F, h, t, ht => by
    simp only [catAt, Option.some.injEq, Prod.mk.injEq] at h
    obtain ⟨rfl, rfl⟩ := h
    simp [catF, ht]
  | p :: ps, k + 1, o, l, F, h, t, ht => by
    simp only [catAt] at h
    cases hq : catAt ps k with
    | none => simp [hq] at h
    | some q =>
      obtain ⟨o', l', F'⟩ := q
      simp only [hq, Option.some.injEq, Prod.mk.injEq] at h
      obtain ⟨rfl, rfl, rfl⟩ := h
      have := cat_part hq t ht
      simp only [catF]
      rw [if_neg (by omega), show p.1 + o' + t - p.1 = o' + t by omega, this]
theorem cat_put : ∀ {ps : List Part} {k o l : Nat} {F : Nat → Value} (A : Nat → Value), catAt ps k = some (o, l, F) → ∀ i, putv (catF ps) o l A i = catF (catSet ps k A) i
  | [], _, _, _, _, _, h, _ => by simp [catAt] at h
  | p :: ps, 0, o, l, F, A, h, i => by
    simp only [catAt, Option.some.injEq, Prod.mk.injEq] at h
    obtain ⟨rfl, rfl⟩ := h
    simp only [putv, catF, catSet]
    by_cases hi : i < l
    · rw [if_pos (by omega), if_pos hi, Nat.sub_zero]
    · rw [if_neg (by omega), if_neg hi, if_neg hi]
  | p :: ps, k + 1, o, l, F, A, h, i => by
    simp only [catAt] at h
    cases hq : catAt ps k with
    | none => simp [hq] at h
    | some q =>
      obtain ⟨o', l', F'⟩ := q
      simp only [hq, Option.some.injEq, Prod.mk.injEq] at h
      obtain ⟨rfl, rfl, rfl⟩ := h
      have := cat_put A hq (i - p.1)
      simp only [catF, catSet]
      rw [← this]
      simp only [putv]
      by_cases hi : i < p.1
      · rw [if_neg (by omega), if_pos hi, if_pos hi]
      · rw [if_neg hi, if_neg hi]
        by_cases h2 : o' ≤ i - p.1 ∧ i - p.1 < o' + l'
        · rw [if_pos (by omega), if_pos h2]; congr 1; omega
        · rw [if_neg (by omega), if_neg h2]
theorem putv_one (F : Nat → Value) (o : Nat) (v : Value) : putv F o 1 (fun _ => v) = updv F o v := by
  funext i
  unfold putv updv
  by_cases h : i = o
  · subst h; rw [if_pos (by omega), if_pos rfl]
  · rw [if_neg (by omega), if_neg h]
theorem cat_upd {ps : List Part} {k o l : Nat} {F : Nat → Value} {j : Nat} (v : Value) (h : catAt ps k = some (o, l, F)) (hj : j < l) (i : Nat) : updv (catF ps) (o + j) v i = catF (catSet ps k (updv F j v)) i := by
  rw [← cat_put _ h i]
  unfold updv putv
  by_cases h1 : i = o + j
  · subst h1
    rw [if_pos rfl, if_pos (by omega)]
    show v = if o + j - o = j then v else F (o + j - o)
    rw [if_pos (by omega)]
  · rw [if_neg h1]
    by_cases h2 : o ≤ i ∧ i < o + l
    · rw [if_pos h2]
      show catF ps i = if i - o = j then v else F (i - o)
      rw [if_neg (by omega)]
      have := cat_part h (i - o) (by omega)
      rw [← this]; congr 1; omega
    · rw [if_neg h2]
theorem upd_int (k : IntKind) (f : Nat → Nat) (j v : Nat) : updv (fun i => .int k (f i : Int)) j (.int k (v : Int)) = fun i => .int k (upd f j v i : Int) := by
  funext i
  unfold updv upd
  split <;> rfl
theorem cat_one : ∀ {ps : List Part}, catOk ps → ∀ i, (catF ps i).oneCell' = true
  | [], _, _ => rfl
  | p :: ps, h, i => by
    simp only [catF]
    split
    · exact h.1 _
    · exact cat_one h.2 _
theorem cells_one {N : Nat} {ps : List Part} (h : catOk ps) : ∀ v ∈ cells N ps, v.oneCell' = true := fun v hv => by
  simp [cells, arrv] at hv
  obtain ⟨i, _, rfl⟩ := hv
  exact cat_one h i
theorem cells_sz {N : Nat} {ps qs : List Part} : (cells N ps).size = (cells N qs).size := by rw [arrv_size, arrv_size]

section
variable {P : Program} {G : Mem} {R : Reg} {ops : Array Oper} {n : Nat} {K : Env → Mm → Prop} {rest : List Oper} {E : Env} {M : Mm} {d : Nat} {ty : TypeId} {pos : String} {aft : Array Edge}
variable {T T' : TypeId} {x y : Operand}
/-- A part that is a row of numbers. -/
theorem e_ldC (k : Nat) {b i o l N : Nat} {kd : IntKind} {f : Nat → Nat} {ps : List Part} {t : TypeId} {td : TypeDesc} (hT : P.underlying T = some td) (hn : rowLike td = true) (hs : (P.info? T).map (·.size) = some l)
    (hx : rd E x = some (.pointer (some ⟨b, o, none⟩))) (hm : lkM M i = some ⟨b, cells N ps, t⟩) (hk : catAt ps k = some (o, pI kd l f)) (ho : o + l ≤ N) (hd : Nat.blt d n = true) (hX : ∃ js, okX M i js R.X) (h : OpsE P G R ops n K rest ((d, .agg (arr kd l f)) :: E) M) :
    OpsE P G R ops n K (⟨some d, .load T x, ty, pos, aft, none⟩ :: rest) E M :=
  e_ldP hT hn hs hx hm ho hd hX (by rw [arrv_congr (fun t ht => cat_part hk t ht), ← arr_arrv]; exact h)
/-- One number of a part. -/
theorem e_ldI (k j : Nat) {b i o o' l N : Nat} {kd : IntKind} {f : Nat → Nat} {ps : List Part} {t : TypeId} {td : TypeDesc} (hT : P.underlying T = some td) (hn : rowLike td = false)
    (hx : rd E x = some (.pointer (some ⟨b, o', none⟩))) (hm : lkM M i = some ⟨b, cells N ps, t⟩) (hk : catAt ps k = some (o, pI kd l f)) (ho : o' = o + j) (hj : j < l) (hN : o' < N) (hd : Nat.blt d n = true) (hX : ∃ js, okX M i js R.X) (h : OpsE P G R ops n K rest ((d, .int kd (f j : Int)) :: E) M) :
    OpsE P G R ops n K (⟨some d, .load T x, ty, pos, aft, none⟩ :: rest) E M :=
  e_load1 (v := .int kd (f j : Int)) hT hn hx hm (by rw [cells, arrv_get hN, ho, cat_part hk j hj]) hd hX h
/-- A part of one cell. -/
theorem e_ldV1 (k : Nat) {b i o N : Nat} {v : Value} {ps : List Part} {t : TypeId} {td : TypeDesc} (hT : P.underlying T = some td) (hn : rowLike td = false)
    (hx : rd E x = some (.pointer (some ⟨b, o, none⟩))) (hm : lkM M i = some ⟨b, cells N ps, t⟩) (hk : catAt ps k = some (o, pV v)) (hN : o < N) (hd : Nat.blt d n = true) (hX : ∃ js, okX M i js R.X) (h : OpsE P G R ops n K rest ((d, v) :: E) M) :
    OpsE P G R ops n K (⟨some d, .load T x, ty, pos, aft, none⟩ :: rest) E M :=
  e_load1 (v := v) hT hn hx hm (by have := cat_part hk 0 (by decide); rw [Nat.add_zero] at this; rw [cells, arrv_get hN, this]) hd hX h
theorem e_stC (k : Nat) {b o i l N : Nat} {kd : IntKind} {f : Nat → Nat} {F : Nat → Value} {ps : List Part} {t : TypeId} (hs : (P.info? T).map (·.size) = some l) (hx : rd E x = some (.pointer (some ⟨b, o, none⟩))) (hy : rd E y = some (.agg (arr kd l f)))
    (hm : lkM M i = some ⟨b, cells N ps, t⟩) (hk : catAt ps k = some (o, l, F)) (ho : o + l ≤ N) (hX : R.X = [] ∨ b ∈ R.X) (h : OpsE P G R ops n K rest E ((i, some ⟨b, cells N (catSet ps k (fun i => .int kd (f i : Int))), t⟩) :: M)) : OpsE P G R ops n K (⟨none, .store T x y, ty, pos, aft, none⟩ :: rest) E M :=
  e_stP (A := fun i => .int kd (f i : Int)) hs hx hy (fun _ _ => rfl) hm ho hX (by rw [funext (cat_put _ hk)]; exact h)
theorem e_stI (k j : Nat) {b o o' i l v N : Nat} {kd : IntKind} {f : Nat → Nat} {ps : List Part} {t : TypeId} (hs : (P.info? T).map (·.size) = some 1) (hx : rd E x = some (.pointer (some ⟨b, o', none⟩))) (hy : rd E y = some (.int kd (v : Int)))
    (hm : lkM M i = some ⟨b, cells N ps, t⟩) (hk : catAt ps k = some (o, pI kd l f)) (ho : o' = o + j) (hj : j < l) (hN : o' < N) (hX : R.X = [] ∨ b ∈ R.X) (h : OpsE P G R ops n K rest E ((i, some ⟨b, cells N (catSet ps k (fun i => .int kd (upd f j v i : Int))), t⟩) :: M)) : OpsE P G R ops n K (⟨none, .store T x y, ty, pos, aft, none⟩ :: rest) E M :=
  e_st1 hs hx hy rfl hm hN hX (by rw [ho, funext (cat_upd _ hk hj), upd_int]; exact h)
theorem e_stV (k : Nat) {b o i N : Nat} {v : Value} {F : Nat → Value} {ps : List Part} {t : TypeId} (hs : (P.info? T).map (·.size) = some 1) (hx : rd E x = some (.pointer (some ⟨b, o, none⟩))) (hy : rd E y = some v) (hv : v.oneCell' = true)
    (hm : lkM M i = some ⟨b, cells N ps, t⟩) (hk : catAt ps k = some (o, 1, F)) (hN : o < N) (hX : R.X = [] ∨ b ∈ R.X) (h : OpsE P G R ops n K rest E ((i, some ⟨b, cells N (catSet ps k (fun _ => v)), t⟩) :: M)) : OpsE P G R ops n K (⟨none, .store T x y, ty, pos, aft, none⟩ :: rest) E M :=
  e_st1 hs hx hy hv hm hN hX (by rw [← putv_one, funext (cat_put _ hk)]; exact h)
/-- A field of a struct that is a value: a row of numbers. -/
theorem st_fieldC {d : Option Tmp} {a : Act} {m : Mem} {K : Act → Mem → Prop} {f k o l N : Nat} {kd : IntKind} {g : Nat → Nat} {ps : List Part} {fs : Array Field} {fd : Field} {td : TypeDesc} (hT : P.underlying T = some (.struct fs)) (hf : fs[f]? = some fd) (he : P.underlying fd.type = some td) (hn : rowLike td = true) (hs : (P.info? fd.type).map (·.size) = some l)
    (hx : a.eval x = .agg (cells N ps)) (hk : catAt ps k = some (o, pI kd l g)) (ho : fd.offset = o) (hN : o + l ≤ N) (h : opsM P G R ops K rest (a.put d (.agg (arr kd l g))) m) : opsM P G R ops K (⟨d, .field T x f, ty, pos, aft, none⟩ :: rest) a m :=
  st_quiet (v := .agg (arr kd l g)) rfl rfl (fun w => by
    cases hi : P.info? fd.type with
    | none => simp [hi] at hs
    | some i =>
      have hsz : i.size = l := by simpa [hi] using hs
      have he2 : (cells N ps).extract o (o + l) = arr kd l g := by rw [cells, arrv_part N o l _ hN, arrv_congr (fun t ht => cat_part hk t ht), ← arr_arrv]
      have hp : (part fd.type (cells N ps) o).run P w = .ok (.agg (arr kd l g)) w := by
        unfold part
        simp only [Sem.run_bind, run_isAgg he, Result.andThen_ok, hn, if_true, sizeOf, typeInfo]
        simp [hi, hsz, he2]
      simp only [execOp, Instr.field, hx, underlying, program]
      simp [Sem.run, hT, hf, ho, asAgg]
      simp [hp]) h
theorem e_fieldC (k : Nat) {f o l N : Nat} {kd : IntKind} {g : Nat → Nat} {ps : List Part} {fs : Array Field} {fd : Field} {td : TypeDesc} (hT : P.underlying T = some (.struct fs)) (hf : fs[f]? = some fd) (he : P.underlying fd.type = some td) (hn : rowLike td = true) (hs : (P.info? fd.type).map (·.size) = some l)
    (hx : rd E x = some (.agg (cells N ps))) (hk : catAt ps k = some (o, pI kd l g)) (ho : fd.offset = o) (hN : o + l ≤ N) (hd : Nat.blt d n = true) (h : OpsE P G R ops n K rest ((d, .agg (arr kd l g)) :: E) M) : OpsE P G R ops n K (⟨some d, .field T x f, ty, pos, aft, none⟩ :: rest) E M :=
  fun _ _ ha hM => st_fieldC hT hf he hn hs (ha.rd hx) hk ho hN (h _ _ (ha.put hd _) hM)
end
section
variable {P : Program} {G : Mem} {R : Reg} {ops : Array Oper} {n : Nat} {K : Env → Mm → Prop} {rest : List Oper} {E : Env} {M : Mm} {d : Nat} {ty : TypeId} {pos : String} {aft : Array Edge}
/-- What hangs on an operation that was left out is left out. -/
theorem e_no2 {op : Op} {g s : Nat} {want : Bool} (hg : (ops[g]?).bind (·.dst) = some s) (hb : lk E s = some undef) (hd : Nat.blt d n = true) (h : OpsE P G R ops n K rest ((d, undef) :: E) M) :
    OpsE P G R ops n K (⟨some d, op, ty, pos, aft, some (g, want)⟩ :: rest) E M := fun a m ha hM => .inl ⟨by
      have hy : Go.yielded ops a.tmps g = none := by
        unfold Go.yielded
        rw [hg]
        simp [ha.slots _ _ hb, undef]
      simp [Region.wanted, hy], h _ _ (ha.put hd _) hM⟩
end
end Go.Proofs.Ytmnmhmpklknleaa

/-
  A block and a stream of ChaCha20 in plain numbers. Plain arithmetic.
-/
namespace Go.Proofs.Ytmnmhmpklknleaa
open Go Go.RowKit

abbrev C16 : List Nat := [101, 120, 112, 97, 110, 100, 32, 51, 50, 45, 98, 121, 116, 101, 32, 107]
def allb (k : Nat → Nat) (c : Nat) (nn : Nat → Nat) : List Nat := C16 ++ (List.range 32).map k ++ lowl c 4 ++ (List.range 12).map nn
theorem allb_len (k : Nat → Nat) (c : Nat) (nn : Nat → Nat) : (allb k c nn).length = 64 := by simp [allb, lowl_len]
theorem range_lt {n : Nat} {f : Nat → Nat} (hf : ∀ j, j < n → f j < 256) : ∀ b ∈ (List.range n).map f, b < 256 := fun b hb => by
  obtain ⟨i, hi, rfl⟩ := List.mem_map.1 hb
  exact hf i (by simpa using hi)
theorem allb_lt {k : Nat → Nat} {c : Nat} {nn : Nat → Nat} (hk : ∀ j, j < 32 → k j < 256) (hn : ∀ j, j < 12 → nn j < 256) : ∀ b ∈ allb k c nn, b < 256 := fun b hb => by
  unfold allb at hb
  rcases List.mem_append.1 hb with hb | hb
  · rcases List.mem_append.1 hb with hb | hb
    · rcases List.mem_append.1 hb with hb | hb
      · simp at hb; omega
      · exact range_lt hk b hb
    · exact lowl_lt c 4 b hb
  · exact range_lt hn b hb
def wrd (l : List Nat) (t : Nat) : Nat := leN ((l.drop (4 * t)).take 4)
theorem wrd_lt {l : List Nat} (hb : ∀ b ∈ l, b < 256) (t : Nat) : wrd l t < 4294967296 := by
  have h1 := leN_lt ((l.drop (4 * t)).take 4) (fun b h => hb b (List.mem_of_mem_drop (List.mem_of_mem_take h)))
  have h2 : ((l.drop (4 * t)).take 4).length ≤ 4 := by simp; omega
  have h3 : 256 ^ ((l.drop (4 * t)).take 4).length ≤ 256 ^ 4 := Nat.pow_le_pow_right (by decide) h2
  have h4 : 256 ^ 4 = 4294967296 := by decide
  unfold wrd
  omega
theorem cut4_len (l : List Nat) (t : Nat) : ((l.drop (4 * t)).take 4).length ≤ 8 := by simp; omega
theorem cut4_lt {l : List Nat} (hb : ∀ b ∈ l, b < 256) (t : Nat) : ∀ b ∈ (l.drop (4 * t)).take 4, b < 256 := fun b h => hb b (List.mem_of_mem_drop (List.mem_of_mem_take h))
def outl (v w : Nat → Nat) : Nat → List Nat
  | 0 => []
  | i + 1 => outl v w i ++ lowl ((v i + w i) % 4294967296) 4
theorem outl_len (v w : Nat → Nat) : ∀ i, (outl v w i).length = 4 * i
  | 0 => rfl
  | i + 1 => by rw [outl, List.length_append, outl_len v w i, lowl_len]; omega
theorem outl_lt (v w : Nat → Nat) : ∀ i, ∀ b ∈ outl v w i, b < 256
  | 0, b, h => by simp [outl] at h
  | i + 1, b, h => by
    rcases List.mem_append.1 h with h | h
    · exact outl_lt v w i b h
    · exact lowl_lt _ _ b h
def blkl (k : Nat → Nat) (c : Nat) (nn : Nat → Nat) : List Nat := outl (dbls (wrd (allb k c nn)) 10) (wrd (allb k c nn)) 16
def blkf (k : Nat → Nat) (c : Nat) (nn : Nat → Nat) (j : Nat) : Nat := (blkl k c nn).getD j 0
theorem blkl_len (k : Nat → Nat) (c : Nat) (nn : Nat → Nat) : (blkl k c nn).length = 64 := outl_len _ _ 16
theorem blkf_lt (k : Nat → Nat) (c : Nat) (nn : Nat → Nat) (j : Nat) : blkf k c nn j < 256 := by
  unfold blkf
  rw [List.getD_eq_getElem?_getD]
  cases h : (blkl k c nn)[j]? with
  | none => simp
  | some b => exact outl_lt _ _ 16 b (List.mem_of_getElem? h)
theorem copy_end (l : List Nat) (hl : l.length = 64) : arr .u8 64 (fun j => if 0 + 0 * 1 ≤ j ∧ j < 0 + 0 * 1 + min l.length (64 - 0) then l.getD (j - (0 + 0 * 1)) 0 else 0) = arr .u8 64 (fun j => l.getD j 0) := arr_congr fun j hj => by
  rw [if_pos (by omega)]; rfl
theorem conv_all (f : Nat → Nat) (n : Nat) : Value.string (strOfNums ((List.range n).map fun j => (f (0 + j) : Int))) = sv ((List.range n).map f) := by
  have e : ((List.range n).map fun j => (f (0 + j) : Int)) = ((List.range n).map f).map fun m : Nat => (m : Int) := by
    rw [List.map_map]
    exact List.map_congr_left fun j _ => by simp
  rw [e, str_nums]

/-! ### Streams -/
def strv (k : Nat → Nat) (c : Nat) (nn : Nat → Nat) (l : List Nat) (t : Nat) : Nat := (l.getD t 0 ^^^ blkf k ((c + t / 64 % 4294967296) % 4294967296) nn (t % 64)) % 256
def strl (k : Nat → Nat) (c : Nat) (nn : Nat → Nat) (l : List Nat) (at_ : Nat) : List Nat := (List.range (l.length - at_)).map fun j => strv k c nn l (at_ + j)
def strp (k : Nat → Nat) (c : Nat) (nn : Nat → Nat) (l : List Nat) (at_ i : Nat) : List Nat := (List.range i).map fun j => strv k c nn l (at_ + j)
theorem strp_len (k : Nat → Nat) (c : Nat) (nn : Nat → Nat) (l : List Nat) (at_ i : Nat) : (strp k c nn l at_ i).length = i := by simp [strp]
theorem strl_len (k : Nat → Nat) (c : Nat) (nn : Nat → Nat) (l : List Nat) (at_ : Nat) : (strl k c nn l at_).length = l.length - at_ := by simp [strl]
theorem strp_succ (k : Nat → Nat) (c : Nat) (nn : Nat → Nat) (l : List Nat) (at_ i : Nat) : strp k c nn l at_ i ++ [strv k c nn l (at_ + i)] = strp k c nn l at_ (i + 1) := by
  unfold strp; rw [List.range_succ, List.map_append]; rfl
theorem strp_all (k : Nat → Nat) (c : Nat) (nn : Nat → Nat) (l : List Nat) {at_ i : Nat} (h : (i = 64 ∧ at_ + 64 ≤ l.length) ∨ (at_ + i = l.length)) (hi : i ≤ 64) : strp k c nn l at_ i ++ strl k c nn l (at_ + 64) = strl k c nn l at_ := by
  apply List.ext_getElem
  · simp [strp, strl]; omega
  · intro j h1 h2
    have hj : j < l.length - at_ := by simpa [strl] using h2
    by_cases hji : j < i
    · rw [List.getElem_append_left (by simpa [strp] using hji)]
      simp [strp, strl]
    · rw [List.getElem_append_right (by simp [strp]; omega)]
      simp only [strp, strl, List.length_map, List.length_range, List.getElem_map, List.getElem_range]
      congr 1
      omega
theorem strl_lt (k : Nat → Nat) (c : Nat) (nn : Nat → Nat) (l : List Nat) (at_ : Nat) : ∀ b ∈ strl k c nn l at_, b < 256 := fun b hb => by
  obtain ⟨j, _, rfl⟩ := List.mem_map.1 hb
  exact Nat.mod_lt _ (by decide)
theorem strl_none (k : Nat → Nat) (c : Nat) (nn : Nat → Nat) (l : List Nat) {at_ : Nat} (h : l.length ≤ at_) : strl k c nn l at_ = [] := by
  unfold strl; rw [show l.length - at_ = 0 by omega]; rfl
theorem strv_at (k : Nat → Nat) (c : Nat) (nn : Nat → Nat) (l : List Nat) {at_ i : Nat} (h : at_ + i < l.length) (h64 : at_ % 64 = 0) (hi : i < 64) :
    (l[at_ + i] ^^^ blkf k ((c + at_ / 64 % 4294967296) % 4294967296) nn i) % 256 = strv k c nn l (at_ + i) := by
  unfold strv
  rw [List.getD_eq_getElem?_getD, List.getElem?_eq_getElem h, show (at_ + i) / 64 = at_ / 64 by omega, show (at_ + i) % 64 = i by omega]
  rfl
theorem own_fix {e : TypeId} {z n n' : Nat} {v : Value} {xs xs' : List Value} {l : Mem} (h : OwnS e z v n xs l) (hn : n = n') (hx : xs = xs') : OwnS e z v n' xs' l := hn ▸ hx ▸ h
theorem by8_one {l : List Nat} : ∀ u ∈ l.map by8, u.oneCell' = true := fun u hu => by
  obtain ⟨n, _, rfl⟩ := List.mem_map.1 hu; rfl

end Go.Proofs.Ytmnmhmpklknleaa

/-
  The one-time sum in plain numbers.
-/
namespace Go.Proofs.Ytmnmhmpklknleaa
open Go Go.RowKit

/-- A state of the sum: its key's halves, the sum, what is held, how much. -/
abbrev PV (r p a h : Nat → Nat) (n : Int) : Value := .agg (cells 24 [pI .u64 2 r, pI .u64 2 p, pI .u64 3 a, pI .u8 16 h, pV (.int .i64 n)])
theorem leN_app : ∀ (a b : List Nat), leN (a ++ b) = leN a + 256 ^ a.length * leN b
  | [], b => by simp [leN]
  | x :: a, b => by
    have := leN_app a b
    simp only [List.cons_append, leN, List.length_cons]
    rw [this, Nat.pow_succ, Nat.mul_add, ← Nat.mul_assoc, Nat.mul_comm 256 (256 ^ a.length), Nat.add_assoc]
theorem leN_zeros : ∀ k, leN (List.replicate k 0) = 0
  | 0 => rfl
  | k + 1 => by rw [List.replicate_succ]; simp only [leN]; rw [leN_zeros k]
/-- A block with its one, filled up to 24 bytes. -/
def bl (l : List Nat) (m : Nat) : List Nat := l ++ [1] ++ List.replicate m 0
theorem bl_len (l : List Nat) (m : Nat) : (bl l m).length = l.length + 1 + m := by simp [bl]; omega
theorem bl_succ (l : List Nat) (m : Nat) : bl l m ++ [0] = bl l (m + 1) := by
  unfold bl
  rw [List.append_assoc, List.replicate_succ', List.append_assoc]
theorem bl_leN (l : List Nat) (m : Nat) : leN (bl l m) = leN (l ++ [1]) := by
  unfold bl
  rw [leN_app, leN_zeros, Nat.mul_zero, Nat.add_zero]
theorem bl_lt {l : List Nat} (hb : ∀ b ∈ l, b < 256) (m : Nat) : ∀ b ∈ bl l m, b < 256 := by
  intro b h
  unfold bl at h
  rw [List.mem_append, List.mem_append] at h
  rcases h with (h | h) | h
  · exact hb b h
  · have : b = 1 := by simpa using h
    omega
  · have := List.eq_of_mem_replicate h
    omega
/-- The words of a list of bytes, eight each. -/
def w8 (l : List Nat) (j : Nat) : Nat := leN ((l.drop (8 * j)).take 8)
theorem take_lt {l : List Nat} (hb : ∀ b ∈ l, b < 256) (i k : Nat) : ∀ b ∈ (l.drop i).take k, b < 256 := fun b h => hb b (List.mem_of_mem_drop (List.mem_of_mem_take h))
theorem w8_lt {l : List Nat} (hb : ∀ b ∈ l, b < 256) (j : Nat) : w8 l j < 18446744073709551616 := by
  unfold w8
  have h1 := leN_lt _ (take_lt hb (8 * j) 8)
  have h2 : ((l.drop (8 * j)).take 8).length ≤ 8 := by rw [List.length_take]; omega
  have h3 : 256 ^ ((l.drop (8 * j)).take 8).length ≤ 256 ^ 8 := Nat.pow_le_pow_right (by decide) h2
  omega
theorem w8_all {l : List Nat} (h : l.length = 24) : w3 (w8 l) = leN l := by
  have e1 : l = (l.drop 0).take 8 ++ ((l.drop 8).take 8 ++ (l.drop 16).take 8) := by
    rw [List.drop_zero]
    conv => lhs; rw [← List.take_append_drop 8 l, ← List.take_append_drop 8 (l.drop 8)]
    rw [List.drop_drop, List.take_of_length_le (l := l.drop (8 + 8)) (by simp; omega)]
  have l0 : ((l.drop 0).take 8).length = 8 := by simp; omega
  have l1 : ((l.drop 8).take 8).length = 8 := by simp; omega
  conv => rhs; rw [e1, leN_app, leN_app, l0, l1]
  unfold w3 w8
  simp only [Nat.mul_zero, Nat.mul_one, Nat.reduceMul, Nat.reducePow]
  omega
theorem bl_small {l : List Nat} (hb : ∀ b ∈ l, b < 256) (hl : l.length ≤ 16) : leN (l ++ [1]) < 2 * 2 ^ 128 := by
  have h1 := leN_lt l hb
  have h2 : 256 ^ l.length ≤ 256 ^ 16 := Nat.pow_le_pow_right (by decide) hl
  rw [leN_app]
  simp only [leN]
  omega
theorem w8_top {l : List Nat} (hb : ∀ b ∈ l, b < 256) (hl : l.length ≤ 16) {m : Nat} (hm : (bl l m).length = 24) : w8 (bl l m) 2 < 4 := by
  have h1 := w8_all hm
  have h2 := bl_small hb hl
  rw [bl_leN] at h1
  unfold w3 at h1
  generalize leN (l ++ [1]) = B at *
  omega
theorem add_five (x y : Nat) (hx : x < 2 ^ 130) (hy : y < 2 ^ 130) : v26 (fun j => d26 x j + d26 y j) 5 = x + y := by
  have h1 := x_five hx
  have h2 := x_five hy
  rw [v26_five]
  omega
/-- A block is taken in. -/
def pst (R A : Nat) (l : List Nat) : Nat := (A + leN (l ++ [1])) % QQ * R % QQ
theorem QQ_lt : QQ < 2 ^ 130 := by decide
theorem mod_lt30 (x : Nat) : x % QQ < 2 ^ 130 := Nat.lt_trans (Nat.mod_lt _ QQ_pos) QQ_lt
def k3 (r : Nat → Nat) : Nat := r 0 + r 1 * 2 ^ 64
theorem w3_k3 (r : Nat → Nat) : w3 (upd r 2 0) = k3 r := by
  have h0 : upd r 2 0 0 = r 0 := upd_off (by decide)
  have h1 : upd r 2 0 1 = r 1 := upd_off (by decide)
  have h2 : upd r 2 0 2 = 0 := upd_on
  unfold w3 k3
  rw [h0, h1, h2, Nat.zero_mul, Nat.add_zero]
theorem k3_lt {r : Nat → Nat} (h0 : r 0 < 18446744073709551616) (h1 : r 1 < 18446744073709551616) : k3 r < 2 ^ 130 := by unfold k3; omega


/-- A key's bytes, the first half with bits taken off. -/
def msk (f : Nat → Nat) (j : Nat) : Nat := if j < 16 ∧ j % 4 = 3 then (f j &&& 15) % 256 else if 4 ≤ j ∧ j < 16 ∧ j % 4 = 0 then (f j &&& 252) % 256 else f j
def mk1 (f : Nat → Nat) (i j : Nat) : Nat := if j < 4 * i ∧ j % 4 = 3 then (f j &&& 15) % 256 else f j
def mk2 (f : Nat → Nat) (e j : Nat) : Nat := if j < 16 ∧ j % 4 = 3 then (f j &&& 15) % 256 else if 4 ≤ j ∧ j < 4 * (e + 1) ∧ j % 4 = 0 then (f j &&& 252) % 256 else f j
theorem mk1_next {f s : Nat → Nat} {i : Nat} (h : ∀ j, s j = mk1 f i j) : ∀ j, upd s (4 * i + 3) ((s (4 * i + 3) &&& 15) % 256) j = mk1 f (i + 1) j := by
  intro j
  unfold upd
  split
  · rename_i e
    subst e
    rw [h]
    unfold mk1
    rw [if_neg (by omega), if_pos (by omega)]
  · rename_i e
    rw [h]
    unfold mk1
    by_cases h1 : j < 4 * i ∧ j % 4 = 3
    · rw [if_pos h1, if_pos (by omega)]
    · rw [if_neg h1, if_neg (by omega)]
theorem mk1_mk2 {f : Nat → Nat} (j : Nat) : mk1 f 4 j = mk2 f 0 j := by
  unfold mk1 mk2
  by_cases h1 : j < 16 ∧ j % 4 = 3
  · rw [if_pos (by omega), if_pos h1]
  · rw [if_neg (by omega), if_neg h1, if_neg (by omega)]
theorem mk2_next {f s : Nat → Nat} {e : Nat} (he : e < 3) (h : ∀ j, s j = mk2 f e j) : ∀ j, upd s (4 * (e + 1)) ((s (4 * (e + 1)) &&& 252) % 256) j = mk2 f (e + 1) j := by
  intro j
  unfold upd
  split
  · rename_i e1
    subst e1
    rw [h]
    unfold mk2
    rw [if_neg (by omega), if_neg (by omega), if_neg (by omega), if_pos (by omega)]
  · rename_i e1
    rw [h]
    unfold mk2
    by_cases h1 : j < 16 ∧ j % 4 = 3
    · rw [if_pos h1, if_pos h1]
    · rw [if_neg h1, if_neg h1]
      by_cases h2 : 4 ≤ j ∧ j < 4 * (e + 1) ∧ j % 4 = 0
      · rw [if_pos h2, if_pos (by omega)]
      · rw [if_neg h2, if_neg (by omega)]
theorem msk_lt {f : Nat → Nat} (hf : ∀ j, j < 32 → f j < 256) {j : Nat} (hj : j < 32) : msk f j < 256 := by
  unfold msk
  split
  · exact Nat.mod_lt _ (by decide)
  · split
    · exact Nat.mod_lt _ (by decide)
    · exact hf j hj
def bL (f : Nat → Nat) : List Nat := (List.range 32).map (msk f)
theorem bL_len (f : Nat → Nat) : (bL f).length = 32 := by simp [bL]
theorem bL_lt {f : Nat → Nat} (hf : ∀ j, j < 32 → f j < 256) : ∀ b ∈ bL f, b < 256 := by
  intro b hb
  simp only [bL, List.mem_map, List.mem_range] at hb
  obtain ⟨j, hj, rfl⟩ := hb
  exact msk_lt hf hj
theorem bL_of {f s : Nat → Nat} (h : ∀ j, s j = mk2 f 3 j) : (List.range 32).map s = bL f := List.map_congr_left fun j _ => h j

end Go.Proofs.Ytmnmhmpklknleaa

/-
  Walks, written by a program of ours off the loaded functions.
-/
namespace Go.Proofs.Ytmnmhmpklknleaa
open Go Go.RowKit


theorem mixed : Try.prog.follows .mixedOrders = true := by kernel_rfl
theorem siz5 : (Try.prog.info? 5).map (·.size) = some 1 := by kernel_rfl
theorem und5 : Try.prog.underlying 5 = some (.int .u8) := by kernel_rfl
theorem und9 : Try.prog.underlying 9 = some (.string) := by kernel_rfl
theorem und23 : Try.prog.underlying 23 = some (.int .u64) := by kernel_rfl
theorem und33 : Try.prog.underlying 33 = some (.slice 5) := by kernel_rfl
theorem zer5 : (Try.prog.info? 5).bind (·.zero) = some (.int .u8 0) := by kernel_rfl

variable {G : Mem}

set_option maxHeartbeats 400000 in
theorem low_fn (n k : Nat) (hn : n < 18446744073709551616) (hk : k ≤ 64) : Fn Try.prog G 24 #[u n, ii k] (sv (lowl n k)) := by
  refine fn1 (n := 19) Try.func24 rfl rfl (by simp) (argE [u n, ii k] 0) (argE_ok _) ?_
  refine e_seq ?_
  refine e_plain ?_
  refine e_assign (v := sv []) rfl rfl ?_
  refine e_nil ?_
  refine e_seq ?_
  refine e_plain ?_
  refine e_assign (v := sv []) rfl rfl ?_
  refine e_nil ?_
  refine e_seq ?_
  refine e_seq ?_
  refine e_plain ?_
  refine e_move rfl rfl ?_
  refine e_move rfl rfl ?_
  refine e_nil ?_
  refine e_block ?_
  refine e_loop (fun kk E m => ∃ (i : Nat), kk = k - i ∧ E = [(0, u (n / 256 ^ i)), (1, ii k), (5, sv (lowl n i)), (6, ii k), (7, ii i)] ∧ m = [] ∧ (i ≤ k)) [(0, u (n / 256 ^ 0)), (1, ii k), (5, sv (lowl n 0)), (6, ii k), (7, ii 0)] [] (k - 0) ⟨by rw [Nat.pow_zero, Nat.div_one]; rfl, rfl, rfl, rfl, rfl, trivial⟩ trivial ⟨0, rfl, rfl, rfl, by omega⟩ ?_
  rintro kk E m ⟨i, rfl, rfl, rfl, hf0_0⟩
  have hq : n / 256 ^ i < 18446744073709551616 := Nat.lt_of_le_of_lt (Nat.div_le_self _ _) hn
  have hll := lowl_len n i
  refine e_seq ?_
  refine e_plain ?_
  refine e_lt rfl rfl rfl ?_
  refine e_nil ?_
  refine e_seq ?_
  refine e_cond rfl ?_ ?_
  · intro hc0
    have hc0 := of_decide_eq_true hc0
    refine e_skip ?_
    refine e_seq ?_
    refine e_block ?_
    refine e_seq ?_
    refine e_plain ?_
    refine e_move rfl rfl ?_
    refine e_move rfl rfl ?_
    refine e_conv_u8 und23 und5 rfl rfl rfl ?_
    refine e_buildSl 0 #[by8 (n / 256 ^ i % 256)] und33 siz5 zer5 (by decide) (by decide) rfl (by kernel_rfl) rfl fun r1 => ?_
    refine e_conv_strV (l := [n / 256 ^ i % 256]) (shows_new _ _ (by rfl)) (seen1 0 rfl ⟨[], trivial⟩) und33 und5 und9 rfl rfl rfl ?_
    refine e_catS rfl rfl rfl (by simp; omega) ?_
    refine e_assign rfl rfl ?_
    refine e_nil ?_
    refine e_plain ?_
    refine e_move rfl rfl ?_
    refine e_quo_u (q := 256) rfl rfl rfl (by omega) (by omega) ?_
    refine e_assign rfl rfl ?_
    refine e_nil ?_
    refine e_plain ?_
    refine e_add_i (q := 1) rfl rfl rfl (by omega) ?_
    refine e_move rfl rfl ?_
    refine e_nil ?_
    refine ⟨_, [(0, u (n / 256 ^ (i + 1))), (1, ii k), (5, sv (lowl n (i + 1))), (6, ii k), (7, ii (i + 1))], [], ?_, ⟨by rw [Nat.pow_succ, ← Nat.div_div_eq_div_mul]; rfl, rfl, by rw [← lowl_succ]; rfl, rfl, rfl, trivial⟩, trivial, i + 1, rfl, rfl, rfl, by omega⟩
    omega
  · intro hc0
    have hc0 := of_decide_eq_false hc0
    have hik : i = k := by omega
    subst hik
    refine e_exit ?_
    refine e_seq ?_
    refine e_plain ?_
    refine e_move rfl rfl ?_
    refine e_assign rfl rfl ?_
    refine e_nil ?_
    refine e_ret ?_
    exact ⟨_, rfl, .tmp rfl⟩

set_option maxHeartbeats 400000 in
theorem number_fn (l : List Nat) (hl : l.length ≤ 8) (hb : ∀ b ∈ l, b < 256) : Fn Try.prog G 23 #[sv l] (u (leN l)) := by
  refine fn1 (n := 20) Try.func23 rfl rfl (by simp) (argE [sv l] 0) (argE_ok _) ?_
  refine e_seq ?_
  refine e_plain ?_
  refine e_assign rfl rfl ?_
  refine e_nil ?_
  refine e_seq ?_
  refine e_plain ?_
  refine e_assign rfl rfl ?_
  refine e_nil ?_
  refine e_seq ?_
  refine e_seq ?_
  refine e_plain ?_
  refine e_move rfl rfl ?_
  refine e_lenStr und9 rfl rfl rfl ?_
  refine e_sub_z (q := 1) rfl rfl rfl (by omega) (by omega) ?_
  refine e_assign rfl rfl ?_
  refine e_nil ?_
  refine e_block ?_
  refine e_loop (fun kk E m => ∃ (n : Nat), kk = 2 * n ∧ E = [(0, sv l), (3, u (leN (l.drop n))), (4, .int .i64 (((n : Nat) : Int) - 1))] ∧ m = [] ∧ (n ≤ l.length)) [(0, sv l), (3, u (leN (l.drop l.length))), (4, .int .i64 (((l.length : Nat) : Int) - 1))] [] (2 * l.length) ⟨rfl, by rw [List.drop_length]; rfl, rfl, trivial⟩ trivial ⟨l.length, rfl, rfl, rfl, Nat.le_refl _⟩ ?_
  rintro kk E m ⟨n, rfl, rfl, rfl, hf0_0⟩
  refine e_seq ?_
  refine e_seq ?_
  refine e_plain ?_
  refine e_move rfl rfl ?_
  refine e_ge rfl rfl rfl ?_
  refine e_nil ?_
  refine e_cond rfl ?_ ?_
  · intro hc0
    have hc0 := of_decide_eq_true hc0
    obtain ⟨i, rfl⟩ : ∃ i, n = i + 1 := ⟨n - 1, by omega⟩
    have hsm := leN_small hl hb i
    have hbi : l[i] < 256 := hb _ (List.getElem_mem _)
    refine e_skip ?_
    refine e_seq ?_
    refine e_block ?_
    refine e_plain ?_
    refine e_move rfl rfl ?_
    refine e_mul_u (q := 256) rfl rfl rfl  ?_
    refine e_as (congrArg u (Nat.mod_eq_of_lt (show leN (l.drop (i + 1)) * 256 < 18446744073709551616 by omega))) ?_
    refine e_move rfl rfl ?_
    refine e_move rfl rfl ?_
    refine e_as (congrArg (Value.int .i64) (show ((i + 1 : Nat) : Int) - 1 = ((i : Nat) : Int) by omega)) ?_
    refine e_idxStr und9 rfl rfl (List.getElem?_eq_getElem (show i < l.length by omega)) (hb _ (List.getElem_mem _)) rfl ?_
    refine e_conv_u und5 und23 rfl rfl rfl ?_
    refine e_as (congrArg u (Nat.mod_eq_of_lt (show l[i] < 18446744073709551616 by omega))) ?_
    refine e_add_u rfl rfl rfl  ?_
    refine e_as (congrArg u (Nat.mod_eq_of_lt (show leN (l.drop (i + 1)) * 256 + l[i] < 18446744073709551616 by omega))) ?_
    refine e_assign rfl rfl ?_
    refine e_nil ?_
    refine e_plain ?_
    refine e_move rfl rfl ?_
    refine e_sub_z (q := 1) rfl rfl rfl (by omega) (by omega) ?_
    refine e_assign rfl rfl ?_
    refine e_nil ?_
    refine ⟨_, [(0, sv l), (3, u (leN (l.drop i))), (4, .int .i64 (((i : Nat) : Int) - 1))], [], ?_, ⟨rfl, by rw [leN_drop (show i < l.length by omega)]; rfl, congrArg (fun z => some (Value.int .i64 z)) (show ((i + 1 : Nat) : Int) - 1 - 1 = ((i : Nat) : Int) - 1 by omega), trivial⟩, trivial, i, rfl, rfl, rfl, by omega⟩
    omega
  · intro hc0
    have hc0 := of_decide_eq_false hc0
    have hn0 : n = 0 := by omega
    subst hn0
    refine e_exit ?_
    refine e_seq ?_
    refine e_plain ?_
    refine e_move rfl rfl ?_
    refine e_assign rfl rfl ?_
    refine e_nil ?_
    refine e_ret ?_
    exact ⟨_, rfl, .tmp rfl⟩

end Go.Proofs.Ytmnmhmpklknleaa

/-
  Walks, written by a program of ours off the loaded functions.
-/
namespace Go.Proofs.Ytmnmhmpklknleaa
open Go Go.RowKit


theorem siz23 : (Try.prog.info? 23).map (·.size) = some 1 := by kernel_rfl
theorem siz25 : (Try.prog.info? 25).map (·.size) = some 3 := by kernel_rfl
theorem siz54 : (Try.prog.info? 54).map (·.size) = some 5 := by kernel_rfl
theorem und25 : Try.prog.underlying 25 = some (.array 3 23) := by kernel_rfl
theorem und54 : Try.prog.underlying 54 = some (.array 5 23) := by kernel_rfl
theorem zer25 : (Try.prog.info? 25).bind (·.zero) = some (.agg (arr .u64 3 fun _ => 0)) := by kernel_rfl
theorem zer54 : (Try.prog.info? 54).bind (·.zero) = some (.agg (arr .u64 5 fun _ => 0)) := by kernel_rfl

variable {G : Mem}

set_option maxHeartbeats 400000 in
theorem partsOf_fn (f : Nat → Nat) (h0 : f 0 < 18446744073709551616) (h1 : f 1 < 18446744073709551616) (h2 : f 2 < 4) : Fn Try.prog G 25 #[.agg (arr .u64 3 f)] (p5 (w3 f)) := by
  refine fn1 (n := 30) Try.func25 rfl rfl (by simp) (argE [.agg (arr .u64 3 f)] 0) (argE_ok _) ?_
  refine e_seq ?_
  refine e_plain ?_
  refine e_box 0 rfl rfl fun r1 => ?_
  refine e_alloc 1 zer54 rfl fun r2 => ?_
  refine e_nil ?_
  refine e_seq ?_
  refine e_plain ?_
  refine e_index0 (j := 0) und25 siz23 rfl rfl (by omega) rfl ?_
  refine e_load1 (i := 0) und23 rfl rfl rfl (arr_get (by omega)) rfl ⟨[], trivial⟩ ?_
  refine e_and_u (q := 67108863) rfl rfl rfl  ?_
  refine e_as (congrArg u (po0 (f := f))) ?_
  refine e_index0 (j := 0) und25 siz23 rfl rfl (by omega) rfl ?_
  refine e_load1 (i := 0) und23 rfl rfl rfl (arr_get (by omega)) rfl ⟨[], trivial⟩ ?_
  refine e_shr_u (s := 26) rfl rfl rfl (by omega) ?_
  refine e_and_u (q := 67108863) rfl rfl rfl  ?_
  refine e_as (congrArg u (po1 (f := f))) ?_
  refine e_index0 (j := 0) und25 siz23 rfl rfl (by omega) rfl ?_
  refine e_load1 (i := 0) und23 rfl rfl rfl (arr_get (by omega)) rfl ⟨[], trivial⟩ ?_
  refine e_shr_u (s := 52) rfl rfl rfl (by omega) ?_
  refine e_index0 (j := 1) und25 siz23 rfl rfl (by omega) rfl ?_
  refine e_load1 (i := 0) und23 rfl rfl rfl (arr_get (by omega)) rfl ⟨[], trivial⟩ ?_
  refine e_shl_u (s := 12) rfl rfl rfl (by omega) ?_
  refine e_or_u rfl rfl rfl  ?_
  refine e_and_u (q := 67108863) rfl rfl rfl  ?_
  refine e_as (congrArg u (po2 h0)) ?_
  refine e_index0 (j := 1) und25 siz23 rfl rfl (by omega) rfl ?_
  refine e_load1 (i := 0) und23 rfl rfl rfl (arr_get (by omega)) rfl ⟨[], trivial⟩ ?_
  refine e_shr_u (s := 14) rfl rfl rfl (by omega) ?_
  refine e_and_u (q := 67108863) rfl rfl rfl  ?_
  refine e_as (congrArg u (po3 h0)) ?_
  refine e_index0 (j := 1) und25 siz23 rfl rfl (by omega) rfl ?_
  refine e_load1 (i := 0) und23 rfl rfl rfl (arr_get (by omega)) rfl ⟨[], trivial⟩ ?_
  refine e_shr_u (s := 40) rfl rfl rfl (by omega) ?_
  refine e_index0 (j := 2) und25 siz23 rfl rfl (by omega) rfl ?_
  refine e_load1 (i := 0) und23 rfl rfl rfl (arr_get (by omega)) rfl ⟨[], trivial⟩ ?_
  refine e_shl_u (s := 24) rfl rfl rfl (by omega) ?_
  refine e_or_u rfl rfl rfl  ?_
  refine e_as (congrArg u (po4 h0 h1 h2)) ?_
  refine e_build (arr .u64 5 (d26 (w3 f))) zer54 und54 siz23 rfl rfl rfl ?_
  refine e_storeA (i := 1) siz54 rfl rfl (arr_size _ _ _) arr_one rfl (arr_sz _ _ _ _ _) (.inl rfl) ?_
  refine e_nil ?_
  refine e_ret ?_
  exact ⟨_, rfl, .cell (i := 1) rfl rfl und54 rfl siz54 (arr_size _ _ _)⟩

set_option maxHeartbeats 400000 in
theorem whole_fn (x : Nat) (hx : x < 2 ^ 130) : Fn Try.prog G 27 #[p5 x] (.agg (arr .u64 3 (wd x))) := by
  refine fn1 (n := 28) Try.func27 rfl rfl (by simp) (argE [p5 x] 0) (argE_ok _) ?_
  refine e_seq ?_
  refine e_plain ?_
  refine e_box 0 rfl rfl fun r1 => ?_
  refine e_alloc 1 zer25 rfl fun r2 => ?_
  refine e_nil ?_
  refine e_seq ?_
  refine e_plain ?_
  refine e_index0 (j := 0) und54 siz23 rfl rfl (by omega) rfl ?_
  refine e_load1 (i := 0) und23 rfl rfl rfl (arr_get (by omega)) rfl ⟨[], trivial⟩ ?_
  refine e_index0 (j := 1) und54 siz23 rfl rfl (by omega) rfl ?_
  refine e_load1 (i := 0) und23 rfl rfl rfl (arr_get (by omega)) rfl ⟨[], trivial⟩ ?_
  refine e_shl_u (s := 26) rfl rfl rfl (by omega) ?_
  refine e_or_u rfl rfl rfl  ?_
  refine e_index0 (j := 2) und54 siz23 rfl rfl (by omega) rfl ?_
  refine e_load1 (i := 0) und23 rfl rfl rfl (arr_get (by omega)) rfl ⟨[], trivial⟩ ?_
  refine e_shl_u (s := 52) rfl rfl rfl (by omega) ?_
  refine e_or_u rfl rfl rfl  ?_
  refine e_as (congrArg u (wh0 hx)) ?_
  refine e_index0 (j := 2) und54 siz23 rfl rfl (by omega) rfl ?_
  refine e_load1 (i := 0) und23 rfl rfl rfl (arr_get (by omega)) rfl ⟨[], trivial⟩ ?_
  refine e_shr_u (s := 12) rfl rfl rfl (by omega) ?_
  refine e_index0 (j := 3) und54 siz23 rfl rfl (by omega) rfl ?_
  refine e_load1 (i := 0) und23 rfl rfl rfl (arr_get (by omega)) rfl ⟨[], trivial⟩ ?_
  refine e_shl_u (s := 14) rfl rfl rfl (by omega) ?_
  refine e_or_u rfl rfl rfl  ?_
  refine e_index0 (j := 4) und54 siz23 rfl rfl (by omega) rfl ?_
  refine e_load1 (i := 0) und23 rfl rfl rfl (arr_get (by omega)) rfl ⟨[], trivial⟩ ?_
  refine e_shl_u (s := 40) rfl rfl rfl (by omega) ?_
  refine e_or_u rfl rfl rfl  ?_
  refine e_as (congrArg u (wh1 hx)) ?_
  refine e_index0 (j := 4) und54 siz23 rfl rfl (by omega) rfl ?_
  refine e_load1 (i := 0) und23 rfl rfl rfl (arr_get (by omega)) rfl ⟨[], trivial⟩ ?_
  refine e_shr_u (s := 24) rfl rfl rfl (by omega) ?_
  refine e_as (congrArg u (wh2 hx)) ?_
  refine e_build (arr .u64 3 (wd x)) zer25 und25 siz23 rfl rfl rfl ?_
  refine e_storeA (i := 1) siz25 rfl rfl (arr_size _ _ _) arr_one rfl (arr_sz _ _ _ _ _) (.inl rfl) ?_
  refine e_nil ?_
  refine e_ret ?_
  exact ⟨_, rfl, .cell (i := 1) rfl rfl und25 rfl siz25 (arr_size _ _ _)⟩

end Go.Proofs.Ytmnmhmpklknleaa

/-
  Walks, written by a program of ours off the loaded functions.
-/
namespace Go.Proofs.Ytmnmhmpklknleaa
open Go Go.RowKit



variable {G : Mem}

set_option maxHeartbeats 400000 in
theorem carried_fn (f : Nat → Nat) (hf : ∀ j, j < 5 → f j < 1152921504606846976) : Fn Try.prog G 26 #[.agg (arr .u64 5 f)] (p5 (v26 f 5 % QQ)) := by
  refine fn1 (n := 65) Try.func26 rfl rfl (by simp) (argE [.agg (arr .u64 5 f)] 0) (argE_ok _) ?_
  refine e_seq ?_
  refine e_plain ?_
  refine e_box 0 rfl rfl fun r1 => ?_
  refine e_alloc 1 zer54 rfl fun r2 => ?_
  refine e_nil ?_
  refine e_seq ?_
  refine e_seq ?_
  refine e_plain ?_
  refine e_move rfl rfl ?_
  refine e_nil ?_
  refine e_block ?_
  refine e_loop (fun kk E m => ∃ (k : Nat) (s : Nat → Nat), kk = 3 - k ∧ E = [(1, ptr r1), (2, ptr r2), (7, ii k)] ∧ m = [(0, some ⟨r1, arr .u64 5 s, 54⟩), (1, some ⟨r2, arr .u64 5 (fun _ => 0), 54⟩)] ∧ (k ≤ 3) ∧ (∀ j, j < 5 → s j < 1152921504606846976) ∧ (v26 s 5 < bnd5 k) ∧ (v26 s 5 % QQ = v26 f 5 % QQ) ∧ (k = 3 → ∀ j, j < 5 → s j < 67108864)) [(1, ptr r1), (2, ptr r2), (7, ii 0)] [(0, some ⟨r1, arr .u64 5 f, 54⟩), (1, some ⟨r2, arr .u64 5 (fun _ => 0), 54⟩)] (3 - 0) ⟨rfl, rfl, rfl, trivial⟩ ⟨rfl, rfl, trivial⟩ ⟨0, f, rfl, rfl, rfl, by omega, hf, v26_bound f hf, rfl, fun h => absurd h (by decide)⟩ ?_
  rintro kk E m ⟨k, s, rfl, rfl, rfl, hf0_0, hf0_1, hf0_2, hf0_3, hf0_4⟩
  refine e_seq ?_
  refine e_plain ?_
  refine e_lt rfl rfl rfl ?_
  refine e_nil ?_
  refine e_seq ?_
  refine e_cond rfl ?_ ?_
  · intro hc0
    have hc0 := of_decide_eq_true hc0
    refine e_skip ?_
    refine e_seq ?_
    refine e_block ?_
    refine e_seq ?_
    refine e_plain ?_
    refine e_assign rfl rfl ?_
    refine e_nil ?_
    refine e_seq ?_
    refine e_seq ?_
    refine e_plain ?_
    refine e_move rfl rfl ?_
    refine e_nil ?_
    refine e_block ?_
    refine e_loop (fun kk E m => ∃ (i : Nat) (s2 : Nat → Nat) (c : Nat), kk = 5 - i ∧ E = [(1, ptr r1), (2, ptr r2), (7, ii k), (3, u c), (9, ii i)] ∧ m = [(0, some ⟨r1, arr .u64 5 s2, 54⟩), (1, some ⟨r2, arr .u64 5 (fun _ => 0), 54⟩)] ∧ (i ≤ 5) ∧ (v26 s2 i + c * 2 ^ (26 * i) = v26 s i) ∧ (∀ j, i ≤ j → s2 j = s j) ∧ (∀ j, j < i → s2 j < 67108864) ∧ (c < 34359738368)) [(1, ptr r1), (2, ptr r2), (7, ii k), (3, u 0), (9, ii 0)] [(0, some ⟨r1, arr .u64 5 s, 54⟩), (1, some ⟨r2, arr .u64 5 (fun _ => 0), 54⟩)] (5 - 0) ⟨rfl, rfl, rfl, rfl, rfl, trivial⟩ ⟨rfl, rfl, trivial⟩ ⟨0, s, 0, rfl, rfl, rfl, by omega, by rw [Nat.zero_mul]; rfl, fun j _ => rfl, fun j hj => absurd hj (Nat.not_lt_zero j), by decide⟩ ?_
    rintro kk E m ⟨i, s2, c, rfl, rfl, rfl, hf1_0, hf1_1, hf1_2, hf1_3, hf1_4⟩
    have hsi : i < 5 → s2 i < 1152921504606846976 := fun h => by rw [hf1_2 i (Nat.le_refl i)]; exact hf0_1 i h
    refine e_seq ?_
    refine e_plain ?_
    refine e_lt rfl rfl rfl ?_
    refine e_nil ?_
    refine e_seq ?_
    refine e_cond rfl ?_ ?_
    · intro hc1
      have hc1 := of_decide_eq_true hc1
      have hsi2 := hsi (by omega)
      refine e_skip ?_
      refine e_seq ?_
      refine e_block ?_
      refine e_seq ?_
      refine e_plain ?_
      refine e_move rfl rfl ?_
      refine e_assign rfl rfl ?_
      refine e_nil ?_
      refine e_seq ?_
      refine e_plain ?_
      refine e_move rfl rfl ?_
      refine e_move rfl rfl ?_
      refine e_index0 und54 siz23 rfl rfl (by omega) rfl ?_
      refine e_load1 (i := 0) und23 rfl rfl rfl (arr_get (by omega)) rfl ⟨[], trivial⟩ ?_
      refine e_add_u rfl rfl rfl  ?_
      refine e_as (congrArg u (Nat.mod_eq_of_lt (show c + s2 i < 18446744073709551616 by omega))) ?_
      refine e_assign rfl rfl ?_
      refine e_nil ?_
      refine e_plain ?_
      refine e_move rfl rfl ?_
      refine e_move rfl rfl ?_
      refine e_and_u (q := 67108863) rfl rfl rfl  ?_
      refine e_as (congrArg u (m26 _)) ?_
      refine e_move rfl rfl ?_
      refine e_shr_u (s := 26) rfl rfl rfl (by omega) ?_
      refine e_as (show _ = u ((c + s2 i) / 67108864) from rfl) ?_
      refine e_index0 und54 siz23 rfl rfl (by omega) rfl ?_
      refine e_storeN (i := 0) siz23 rfl rfl rfl (by omega) (.inl rfl) ?_
      refine e_assign rfl rfl ?_
      refine e_nil ?_
      refine e_plain ?_
      refine e_add_i (q := 1) rfl rfl rfl (by omega) ?_
      refine e_move rfl rfl ?_
      refine e_nil ?_
      refine ⟨_, [(1, ptr r1), (2, ptr r2), (7, ii k), (3, u ((c + s2 i) / 67108864)), (9, ii (i + 1))], [(0, some ⟨r1, arr .u64 5 (upd s2 i _), 54⟩), (1, some ⟨r2, arr .u64 5 (fun _ => 0), 54⟩)], ?_, ⟨rfl, rfl, rfl, rfl, rfl, trivial⟩, ⟨rfl, rfl, trivial⟩, i + 1, upd s2 i _, (c + s2 i) / 67108864, rfl, rfl, rfl, by omega, carry26 hf1_1 (hf1_2 i (Nat.le_refl i)), upd_ge hf1_2, mod_below hf1_3, by omega⟩
      omega
    · intro hc1
      have hc1 := of_decide_eq_false hc1
      have hi5 : i = 5 := by omega
      subst hi5
      have hs20 := hf1_3 0 (by decide)
      refine e_exit ?_
      refine e_plain ?_
      refine e_index0 (j := 0) und54 siz23 rfl rfl (by omega) rfl ?_
      refine e_load1 (i := 0) und23 rfl rfl rfl (arr_get (by omega)) rfl ⟨[], trivial⟩ ?_
      refine e_move rfl rfl ?_
      refine e_mul_u (p := 5) rfl rfl rfl  ?_
      refine e_as (congrArg u (Nat.mod_eq_of_lt (show 5 * c < 18446744073709551616 by omega))) ?_
      refine e_add_u rfl rfl rfl  ?_
      refine e_as (congrArg u (Nat.mod_eq_of_lt (show s2 0 + 5 * c < 18446744073709551616 by omega))) ?_
      refine e_index0 (j := 0) und54 siz23 rfl rfl (by omega) rfl ?_
      refine e_storeN (i := 0) siz23 rfl rfl rfl (by omega) (.inl rfl) ?_
      refine e_nil ?_
      refine e_plain ?_
      refine e_add_i (q := 1) rfl rfl rfl (by omega) ?_
      refine e_move rfl rfl ?_
      refine e_nil ?_
      refine ⟨_, [(1, ptr r1), (2, ptr r2), (7, ii (k + 1))], [(0, some ⟨r1, arr .u64 5 (upd s2 0 _), 54⟩), (1, some ⟨r2, arr .u64 5 (fun _ => 0), 54⟩)], ?_, ⟨rfl, rfl, rfl, trivial⟩, ⟨rfl, rfl, trivial⟩, k + 1, upd s2 0 _, rfl, rfl, rfl, by omega, rnd_small hf1_3 hf1_4, by rw [rnd_next5 hf1_1 hf1_3]; exact bnd5_next _ _ hf0_2, by rw [rnd_next5 hf1_1 hf1_3, round5]; exact hf0_3, rnd_last hf1_1 hf1_3 hf0_2⟩
      omega
  · intro hc0
    have hc0 := of_decide_eq_false hc0
    have hk3 : k = 3 := by omega
    subst hk3
    have hs5 := hf0_4 rfl
    have hs0 := hs5 0 (by decide)
    have hT : v26 s 5 < 2 ^ 130 := hf0_2
    refine e_exit ?_
    refine e_seq ?_
    refine e_plain ?_
    refine e_loadA (i := 0) und54 rfl siz54 rfl rfl (arr_size _ _ _) rfl ⟨[], trivial⟩ ?_
    refine e_alloc 2 zer54 rfl fun r3 => ?_
    refine e_storeA (i := 2) siz54 rfl rfl (arr_size _ _ _) arr_one rfl (arr_sz _ _ _ _ _) (.inl rfl) ?_
    refine e_nil ?_
    refine e_seq ?_
    refine e_plain ?_
    refine e_index0 (j := 0) und54 siz23 rfl rfl (by omega) rfl ?_
    refine e_load1 (i := 2) und23 rfl rfl rfl (arr_get (by omega)) rfl ⟨[], trivial⟩ ?_
    refine e_add_u (q := 5) rfl rfl rfl  ?_
    refine e_as (congrArg u (Nat.mod_eq_of_lt (show s 0 + 5 < 18446744073709551616 by omega))) ?_
    refine e_index0 (j := 0) und54 siz23 rfl rfl (by omega) rfl ?_
    refine e_storeN (i := 2) siz23 rfl rfl rfl (by omega) (.inl rfl) ?_
    refine e_nil ?_
    refine e_seq ?_
    refine e_seq ?_
    refine e_plain ?_
    refine e_move rfl rfl ?_
    refine e_nil ?_
    refine e_block ?_
    refine e_loop (fun kk E m => ∃ (n : Nat) (q : Nat → Nat), kk = 4 - n ∧ E = [(1, ptr r1), (2, ptr r2), (5, ptr r3), (36, ii n)] ∧ m = [(0, some ⟨r1, arr .u64 5 s, 54⟩), (1, some ⟨r2, arr .u64 5 (fun _ => 0), 54⟩), (2, some ⟨r3, arr .u64 5 q, 54⟩)] ∧ (n ≤ 4) ∧ (v26 q 5 = v26 s 5 + 5) ∧ (∀ j, j < n → q j < 67108864) ∧ (∀ j, n < j → j < 5 → q j < 67108864) ∧ (q n < 67108869)) [(1, ptr r1), (2, ptr r2), (5, ptr r3), (36, ii 0)] [(0, some ⟨r1, arr .u64 5 s, 54⟩), (1, some ⟨r2, arr .u64 5 (fun _ => 0), 54⟩), (2, some ⟨r3, arr .u64 5 (upd s 0 _), 54⟩)] (4 - 0) ⟨rfl, rfl, rfl, rfl, trivial⟩ ⟨rfl, rfl, rfl, trivial⟩ ⟨0, upd s 0 _, rfl, rfl, rfl, by omega, q_start, fun j hj => absurd hj (Nat.not_lt_zero j), fun j h h5 => by rw [upd_off (by omega)]; exact hs5 j h5, by rw [upd_on]; have := hs5 0 (by decide); omega⟩ ?_
    rintro kk E m ⟨n, q, rfl, rfl, rfl, hf2_0, hf2_1, hf2_2, hf2_3, hf2_4⟩
    refine e_seq ?_
    refine e_plain ?_
    refine e_lt rfl rfl rfl ?_
    refine e_nil ?_
    refine e_seq ?_
    refine e_cond rfl ?_ ?_
    · intro hc2
      have hc2 := of_decide_eq_true hc2
      have hq1 := hf2_3 (n + 1) (by omega) (by omega)
      refine e_skip ?_
      refine e_seq ?_
      refine e_block ?_
      refine e_seq ?_
      refine e_plain ?_
      refine e_move rfl rfl ?_
      refine e_assign rfl rfl ?_
      refine e_nil ?_
      refine e_seq ?_
      refine e_draw mixed (by kernel_rfl) ?_
      refine e_move rfl rfl ?_
      refine e_add_i (q := 1) rfl rfl rfl (by omega) ?_
      refine e_index0 und54 siz23 rfl rfl (by omega) rfl ?_
      refine e_load1 (i := 2) und23 rfl rfl rfl (arr_get (by omega)) rfl ⟨[], trivial⟩ ?_
      refine e_move rfl rfl ?_
      refine e_index0 und54 siz23 rfl rfl (by omega) rfl ?_
      refine e_load1 (i := 2) und23 rfl rfl rfl (arr_get (by omega)) rfl ⟨[], trivial⟩ ?_
      refine e_shr_u (s := 26) rfl rfl rfl (by omega) ?_
      refine e_as (show _ = u (q n / 67108864) from rfl) ?_
      refine e_add_u rfl rfl rfl  ?_
      refine e_as (congrArg u (Nat.mod_eq_of_lt (show q (n + 1) + q n / 67108864 < 18446744073709551616 by omega))) ?_
      refine e_index0 und54 siz23 rfl rfl (by omega) rfl ?_
      refine e_storeN (i := 2) siz23 rfl rfl rfl (by omega) (.inl rfl) ?_
      refine e_nil ?_
      refine e_plain ?_
      refine e_move rfl rfl ?_
      refine e_index0 und54 siz23 rfl rfl (by omega) rfl ?_
      refine e_load1 (i := 2) und23 rfl rfl rfl (arr_get (by omega)) rfl ⟨[], trivial⟩ ?_
      refine e_as (congrArg u (upd_off (by omega))) ?_
      refine e_and_u (q := 67108863) rfl rfl rfl  ?_
      refine e_as (congrArg u (m26 _)) ?_
      refine e_index0 und54 siz23 rfl rfl (by omega) rfl ?_
      refine e_storeN (i := 2) siz23 rfl rfl rfl (by omega) (.inl rfl) ?_
      refine e_nil ?_
      refine e_plain ?_
      refine e_add_i (q := 1) rfl rfl rfl (by omega) ?_
      refine e_move rfl rfl ?_
      refine e_nil ?_
      refine ⟨_, [(1, ptr r1), (2, ptr r2), (5, ptr r3), (36, ii (n + 1))], [(0, some ⟨r1, arr .u64 5 s, 54⟩), (1, some ⟨r2, arr .u64 5 (fun _ => 0), 54⟩), (2, some ⟨r3, arr .u64 5 (upd (upd q (n + 1) _) n _), 54⟩)], ?_, ⟨rfl, rfl, rfl, rfl, trivial⟩, ⟨rfl, rfl, rfl, trivial⟩, n + 1, upd (upd q (n + 1) _) n _, rfl, rfl, rfl, by omega, (q_step (by omega)).trans hf2_1, q_low hf2_2, q_high hf2_3, q_here (by omega) hf2_3 hf2_4⟩
      omega
    · intro hc2
      have hc2 := of_decide_eq_false hc2
      have hn4 : n = 4 := by omega
      subst hn4
      refine e_exit ?_
      refine e_seq ?_
      refine e_seq ?_
      refine e_plain ?_
      refine e_index0 (j := 4) und54 siz23 rfl rfl (by omega) rfl ?_
      refine e_load1 (i := 2) und23 rfl rfl rfl (arr_get (by omega)) rfl ⟨[], trivial⟩ ?_
      refine e_shr_u (s := 26) rfl rfl rfl (by omega) ?_
      refine e_gt rfl rfl rfl ?_
      refine e_nil ?_
      refine e_cond rfl ?_ ?_
      · intro hc3
        have hc3 := of_decide_eq_true hc3
        have hge : QQ ≤ v26 s 5 := (top5 hf2_1 hf2_2 hT).1.1 (by omega)
        refine e_seq ?_
        refine e_plain ?_
        refine e_index0 (j := 4) und54 siz23 rfl rfl (by omega) rfl ?_
        refine e_load1 (i := 2) und23 rfl rfl rfl (arr_get (by omega)) rfl ⟨[], trivial⟩ ?_
        refine e_and_u (q := 67108863) rfl rfl rfl  ?_
        refine e_as (congrArg u (m26 _)) ?_
        refine e_index0 (j := 4) und54 siz23 rfl rfl (by omega) rfl ?_
        refine e_storeN (i := 2) siz23 rfl rfl rfl (by omega) (.inl rfl) ?_
        refine e_nil ?_
        refine e_seq ?_
        refine e_plain ?_
        refine e_loadA (i := 2) und54 rfl siz54 rfl rfl (arr_size _ _ _) rfl ⟨[], trivial⟩ ?_
        refine e_as (p5_of (mod_below hf2_2) (((top5 hf2_1 hf2_2 hT).2 hge).trans hf0_3)) ?_
        refine e_storeA (i := 1) siz54 rfl rfl (arr_size _ _ _) arr_one rfl (arr_sz _ _ _ _ _) (.inl rfl) ?_
        refine e_nil ?_
        refine e_ret ?_
        exact ⟨_, rfl, .cell (i := 1) rfl rfl und54 rfl siz54 (arr_size _ _ _)⟩
      · intro hc3
        have hc3 := of_decide_eq_false hc3
        have hlt : v26 s 5 < QQ := Nat.lt_of_not_le fun h => hc3 (by have := (top5 hf2_1 hf2_2 hT).1.2 h; omega)
        refine e_skip ?_
        refine e_seq ?_
        refine e_plain ?_
        refine e_loadA (i := 0) und54 rfl siz54 rfl rfl (arr_size _ _ _) rfl ⟨[], trivial⟩ ?_
        refine e_as (p5_of hs5 ((Nat.mod_eq_of_lt hlt).symm.trans hf0_3)) ?_
        refine e_storeA (i := 1) siz54 rfl rfl (arr_size _ _ _) arr_one rfl (arr_sz _ _ _ _ _) (.inl rfl) ?_
        refine e_nil ?_
        refine e_ret ?_
        exact ⟨_, rfl, .cell (i := 1) rfl rfl und54 rfl siz54 (arr_size _ _ _)⟩

end Go.Proofs.Ytmnmhmpklknleaa

/-
  Walks, written by a program of ours off the loaded functions.
-/
namespace Go.Proofs.Ytmnmhmpklknleaa
open Go Go.RowKit


theorem ent26 : enters Try.prog 26 = true := by kernel_rfl

variable {G : Mem}

set_option maxHeartbeats 400000 in
theorem times5_fn (x y : Nat) (hx : x < 2 ^ 130) (hy : y < 2 ^ 130) : Fn Try.prog G 35 #[p5 x, p5 y] (p5 (x * y % QQ)) := by
  have hvy : v26 (d26 y) 5 = y := (v26_d26 y 5).trans (Nat.mod_eq_of_lt hy)
  refine fn1 (n := 43) Try.func35 rfl rfl (by simp) (argE [p5 x, p5 y] 0) (argE_ok _) ?_
  refine e_seq ?_
  refine e_plain ?_
  refine e_box 0 rfl rfl fun r1 => ?_
  refine e_box 1 rfl rfl fun r2 => ?_
  refine e_alloc 2 zer54 rfl fun r3 => ?_
  refine e_nil ?_
  refine e_seq ?_
  refine e_plain ?_
  refine e_alloc 3 zer54 rfl fun r4 => ?_
  refine e_nil ?_
  refine e_seq ?_
  refine e_seq ?_
  refine e_plain ?_
  refine e_loadA (i := 0) und54 rfl siz54 rfl rfl (arr_size _ _ _) rfl ⟨[], trivial⟩ ?_
  refine e_move rfl rfl ?_
  refine e_nil ?_
  refine e_block ?_
  refine e_loop (fun kk E m => ∃ (i : Nat) (s : Nat → Nat), kk = 5 - i ∧ E = [(2, ptr r1), (3, ptr r2), (4, ptr r3), (5, ptr r4), (11, p5 x), (12, ii i)] ∧ m = [(0, some ⟨r1, arr .u64 5 (d26 x), 54⟩), (1, some ⟨r2, arr .u64 5 (d26 y), 54⟩), (2, some ⟨r3, arr .u64 5 (fun _ => 0), 54⟩), (3, some ⟨r4, arr .u64 5 s, 54⟩)] ∧ (i ≤ 5) ∧ (∀ t, t < 5 → s t ≤ 5 * i * 22517997465763845) ∧ (v26 s 5 % QQ = (v26 (d26 x) i * y + d26 x i * v26 (d26 y) 0 * 2 ^ (26 * i)) % QQ)) [(2, ptr r1), (3, ptr r2), (4, ptr r3), (5, ptr r4), (11, p5 x), (12, ii 0)] [(0, some ⟨r1, arr .u64 5 (d26 x), 54⟩), (1, some ⟨r2, arr .u64 5 (d26 y), 54⟩), (2, some ⟨r3, arr .u64 5 (fun _ => 0), 54⟩), (3, some ⟨r4, arr .u64 5 (fun _ => 0), 54⟩)] (5 - 0) ⟨rfl, rfl, rfl, rfl, rfl, rfl, trivial⟩ ⟨rfl, rfl, rfl, rfl, trivial⟩ ⟨0, fun _ => 0, rfl, rfl, rfl, by omega, fun t _ => Nat.zero_le _, by simp [v26]⟩ ?_
  rintro kk E m ⟨i, s, rfl, rfl, rfl, hf0_0, hf0_1, hf0_2⟩
  refine e_seq ?_
  refine e_plain ?_
  refine e_lt rfl rfl rfl ?_
  refine e_nil ?_
  refine e_seq ?_
  refine e_cond rfl ?_ ?_
  · intro hc0
    have hc0 := of_decide_eq_true hc0
    refine e_skip ?_
    refine e_seq ?_
    refine e_block ?_
    refine e_seq ?_
    refine e_plain ?_
    refine e_move rfl rfl ?_
    refine e_idx und54 und23 siz23 rfl rfl (by omega) rfl ?_
    refine e_assign rfl rfl ?_
    refine e_assign rfl rfl ?_
    refine e_nil ?_
    refine e_seq ?_
    refine e_plain ?_
    refine e_loadA (i := 1) und54 rfl siz54 rfl rfl (arr_size _ _ _) rfl ⟨[], trivial⟩ ?_
    refine e_move rfl rfl ?_
    refine e_nil ?_
    refine e_block ?_
    refine e_loop (fun kk E m => ∃ (j : Nat) (s2 : Nat → Nat), kk = 5 - j ∧ E = [(2, ptr r1), (3, ptr r2), (4, ptr r3), (5, ptr r4), (11, p5 x), (12, ii i), (6, ii i), (7, u (d26 x i)), (16, p5 y), (17, ii j)] ∧ m = [(0, some ⟨r1, arr .u64 5 (d26 x), 54⟩), (1, some ⟨r2, arr .u64 5 (d26 y), 54⟩), (2, some ⟨r3, arr .u64 5 (fun _ => 0), 54⟩), (3, some ⟨r4, arr .u64 5 s2, 54⟩)] ∧ (j ≤ 5) ∧ (∀ t, t < 5 → s2 t ≤ (5 * i + j) * 22517997465763845) ∧ (v26 s2 5 % QQ = (v26 (d26 x) i * y + d26 x i * v26 (d26 y) j * 2 ^ (26 * i)) % QQ)) [(2, ptr r1), (3, ptr r2), (4, ptr r3), (5, ptr r4), (11, p5 x), (12, ii i), (6, ii i), (7, u (d26 x i)), (16, p5 y), (17, ii 0)] [(0, some ⟨r1, arr .u64 5 (d26 x), 54⟩), (1, some ⟨r2, arr .u64 5 (d26 y), 54⟩), (2, some ⟨r3, arr .u64 5 (fun _ => 0), 54⟩), (3, some ⟨r4, arr .u64 5 s, 54⟩)] (5 - 0) ⟨rfl, rfl, rfl, rfl, rfl, rfl, rfl, rfl, rfl, rfl, trivial⟩ ⟨rfl, rfl, rfl, rfl, trivial⟩ ⟨0, s, rfl, rfl, rfl, by omega, hf0_1, hf0_2⟩ ?_
    rintro kk E m ⟨j, s2, rfl, rfl, rfl, hf1_0, hf1_1, hf1_2⟩
    have hde := tm_le (x := x) (y := y) (i := i) (j := j)
    have hsr := hf1_1 ((i + j) % 5) (Nat.mod_lt _ (by decide))
    refine e_seq ?_
    refine e_plain ?_
    refine e_lt rfl rfl rfl ?_
    refine e_nil ?_
    refine e_seq ?_
    refine e_cond rfl ?_ ?_
    · intro hc1
      have hc1 := of_decide_eq_true hc1
      refine e_skip ?_
      refine e_seq ?_
      refine e_block ?_
      refine e_seq ?_
      refine e_plain ?_
      refine e_move rfl rfl ?_
      refine e_idx und54 und23 siz23 rfl rfl (by omega) rfl ?_
      refine e_assign rfl rfl ?_
      refine e_assign rfl rfl ?_
      refine e_nil ?_
      refine e_seq ?_
      refine e_plain ?_
      refine e_move rfl rfl ?_
      refine e_move rfl rfl ?_
      refine e_mul_u rfl rfl rfl  ?_
      refine e_as (congrArg u (Nat.mod_eq_of_lt (show d26 x i * d26 y j < 18446744073709551616 by omega))) ?_
      refine e_assign rfl rfl ?_
      refine e_nil ?_
      refine e_seq ?_
      refine e_seq ?_
      refine e_plain ?_
      refine e_move rfl rfl ?_
      refine e_move rfl rfl ?_
      refine e_add_i rfl rfl rfl (by omega) ?_
      refine e_ge rfl rfl rfl ?_
      refine e_nil ?_
      refine e_cond rfl ?_ ?_
      · intro hc2
        have hc2 := of_decide_eq_true hc2
        refine e_plain ?_
        refine e_move rfl rfl ?_
        refine e_mul_u (q := 5) rfl rfl rfl  ?_
        refine e_as (congrArg u (Nat.mod_eq_of_lt (show d26 x i * d26 y j * 5 < 18446744073709551616 by omega))) ?_
        refine e_assign rfl rfl ?_
        refine e_nil ?_
        refine e_plain ?_
        refine e_move rfl rfl ?_
        refine e_move rfl rfl ?_
        refine e_add_i rfl rfl rfl (by omega) ?_
        refine e_rem_i (q := 5) rfl rfl rfl (by omega) ?_
        refine e_index0 und54 siz23 rfl rfl (by omega) rfl ?_
        refine e_load1 (i := 3) und23 rfl rfl rfl (arr_get (by omega)) rfl ⟨[], trivial⟩ ?_
        refine e_move rfl rfl ?_
        refine e_add_u rfl rfl rfl  ?_
        refine e_as (congrArg u (Nat.mod_eq_of_lt (show s2 ((i + j) % 5) + _ < 18446744073709551616 by omega))) ?_
        refine e_index0 und54 siz23 rfl rfl (by omega) rfl ?_
        refine e_storeN (i := 3) siz23 rfl rfl rfl (by omega) (.inl rfl) ?_
        refine e_nil ?_
        refine e_plain ?_
        refine e_add_i (q := 1) rfl rfl rfl (by omega) ?_
        refine e_move rfl rfl ?_
        refine e_nil ?_
        refine ⟨_, [(2, ptr r1), (3, ptr r2), (4, ptr r3), (5, ptr r4), (11, p5 x), (12, ii i), (6, ii i), (7, u (d26 x i)), (16, p5 y), (17, ii (j + 1))], [(0, some ⟨r1, arr .u64 5 (d26 x), 54⟩), (1, some ⟨r2, arr .u64 5 (d26 y), 54⟩), (2, some ⟨r3, arr .u64 5 (fun _ => 0), 54⟩), (3, some ⟨r4, arr .u64 5 (upd s2 ((i + j) % 5) _), 54⟩)], ?_, ⟨rfl, rfl, rfl, rfl, rfl, rfl, rfl, rfl, rfl, rfl, trivial⟩, ⟨rfl, rfl, rfl, rfl, trivial⟩, j + 1, upd s2 ((i + j) % 5) _, rfl, rfl, rfl, by omega, tm_bnd (Nat.mod_lt _ (by decide)) hf1_1 (by omega), tm_step (by omega) (by omega) hf1_2 (by first | rw [if_pos (by omega)] | rw [if_neg (by omega)])⟩
        omega
      · intro hc2
        have hc2 := of_decide_eq_false hc2
        refine e_skip ?_
        refine e_plain ?_
        refine e_move rfl rfl ?_
        refine e_move rfl rfl ?_
        refine e_add_i rfl rfl rfl (by omega) ?_
        refine e_rem_i (q := 5) rfl rfl rfl (by omega) ?_
        refine e_index0 und54 siz23 rfl rfl (by omega) rfl ?_
        refine e_load1 (i := 3) und23 rfl rfl rfl (arr_get (by omega)) rfl ⟨[], trivial⟩ ?_
        refine e_move rfl rfl ?_
        refine e_add_u rfl rfl rfl  ?_
        refine e_as (congrArg u (Nat.mod_eq_of_lt (show s2 ((i + j) % 5) + _ < 18446744073709551616 by omega))) ?_
        refine e_index0 und54 siz23 rfl rfl (by omega) rfl ?_
        refine e_storeN (i := 3) siz23 rfl rfl rfl (by omega) (.inl rfl) ?_
        refine e_nil ?_
        refine e_plain ?_
        refine e_add_i (q := 1) rfl rfl rfl (by omega) ?_
        refine e_move rfl rfl ?_
        refine e_nil ?_
        refine ⟨_, [(2, ptr r1), (3, ptr r2), (4, ptr r3), (5, ptr r4), (11, p5 x), (12, ii i), (6, ii i), (7, u (d26 x i)), (16, p5 y), (17, ii (j + 1))], [(0, some ⟨r1, arr .u64 5 (d26 x), 54⟩), (1, some ⟨r2, arr .u64 5 (d26 y), 54⟩), (2, some ⟨r3, arr .u64 5 (fun _ => 0), 54⟩), (3, some ⟨r4, arr .u64 5 (upd s2 ((i + j) % 5) _), 54⟩)], ?_, ⟨rfl, rfl, rfl, rfl, rfl, rfl, rfl, rfl, rfl, rfl, trivial⟩, ⟨rfl, rfl, rfl, rfl, trivial⟩, j + 1, upd s2 ((i + j) % 5) _, rfl, rfl, rfl, by omega, tm_bnd (Nat.mod_lt _ (by decide)) hf1_1 (by omega), tm_step (by omega) (by omega) hf1_2 (by first | rw [if_pos (by omega)] | rw [if_neg (by omega)])⟩
        omega
    · intro hc1
      have hc1 := of_decide_eq_false hc1
      have hj5 : j = 5 := by omega
      subst hj5
      refine e_exit ?_
      refine e_plain ?_
      refine e_add_i (q := 1) rfl rfl rfl (by omega) ?_
      refine e_move rfl rfl ?_
      refine e_nil ?_
      refine ⟨_, [(2, ptr r1), (3, ptr r2), (4, ptr r3), (5, ptr r4), (11, p5 x), (12, ii (i + 1))], [(0, some ⟨r1, arr .u64 5 (d26 x), 54⟩), (1, some ⟨r2, arr .u64 5 (d26 y), 54⟩), (2, some ⟨r3, arr .u64 5 (fun _ => 0), 54⟩), (3, some ⟨r4, arr .u64 5 s2, 54⟩)], ?_, ⟨rfl, rfl, rfl, rfl, rfl, rfl, trivial⟩, ⟨rfl, rfl, rfl, rfl, trivial⟩, i + 1, s2, rfl, rfl, rfl, by omega, hf1_1, hf1_2.trans (congrArg (fun z => z % QQ) (tm_row hvy))⟩
      omega
  · intro hc0
    have hc0 := of_decide_eq_false hc0
    have hi5 : i = 5 := by omega
    subst hi5
    refine e_exit ?_
    refine e_seq ?_
    refine e_plain ?_
    refine e_loadA (i := 3) und54 rfl siz54 rfl rfl (arr_size _ _ _) rfl ⟨[], trivial⟩ ?_
    refine e_call rfl ent26 (carried_fn s (fun t ht => by have := hf0_1 t ht; omega)) rfl rfl ?_
    refine e_as (congrArg p5 (hf0_2.trans (congrArg (fun z => z % QQ) (tm_end hx)))) ?_
    refine e_storeA (i := 2) siz54 rfl rfl (arr_size _ _ _) arr_one rfl (arr_sz _ _ _ _ _) (.inl rfl) ?_
    refine e_nil ?_
    refine e_ret ?_
    exact ⟨_, rfl, .cell (i := 2) rfl rfl und54 rfl siz54 (arr_size _ _ _)⟩

end Go.Proofs.Ytmnmhmpklknleaa

/-
  Walks, written by a program of ours off the loaded functions.
-/
namespace Go.Proofs.Ytmnmhmpklknleaa
open Go Go.RowKit


theorem ent23 : enters Try.prog 23 = true := by kernel_rfl
theorem ent25 : enters Try.prog 25 = true := by kernel_rfl
theorem ent27 : enters Try.prog 27 = true := by kernel_rfl
theorem ent35 : enters Try.prog 35 = true := by kernel_rfl
theorem sis5 : ((Try.prog.info? 5).map (·.size)).isSome = true := by kernel_rfl
theorem siz3 : (Try.prog.info? 3).map (·.size) = some 1 := by kernel_rfl
theorem siz24 : (Try.prog.info? 24).map (·.size) = some 2 := by kernel_rfl
theorem siz26 : (Try.prog.info? 26).map (·.size) = some 16 := by kernel_rfl
theorem siz28 : (Try.prog.info? 28).map (·.size) = some 24 := by kernel_rfl
theorem und24 : Try.prog.underlying 24 = some (.array 2 23) := by kernel_rfl
theorem und26 : Try.prog.underlying 26 = some (.array 16 5) := by kernel_rfl
theorem und28 : Try.prog.underlying 28 = some (.struct #[.mk "R" 24 0 false "" "" 0, .mk "Pad" 24 2 false "" "" 16, .mk "Acc" 25 4 false "" "" 32, .mk "Held" 26 7 false "" "" 56, .mk "N" 3 23 false "" "" 72]) := by kernel_rfl
theorem zer26 : (Try.prog.info? 26).bind (·.zero) = some (.agg (arr .u8 16 fun _ => 0)) := by kernel_rfl
theorem zer28 : (Try.prog.info? 28).bind (·.zero) = some (.agg (cells 24 [pI .u64 2 fun _ => 0, pI .u64 2 fun _ => 0, pI .u64 3 fun _ => 0, pI .u8 16 fun _ => 0, pV (.int .i64 0)])) := by kernel_rfl

variable {G : Mem}

set_option maxHeartbeats 2000000 in
theorem soaked_fn (r p a h : Nat → Nat) (n : Int) (l : List Nat) (hl : l.length ≤ 16) (hb : ∀ b ∈ l, b < 256) (ha0 : a 0 < 18446744073709551616) (ha1 : a 1 < 18446744073709551616) (ha2 : a 2 < 4) (hr0 : r 0 < 18446744073709551616) (hr1 : r 1 < 18446744073709551616) : Fn Try.prog G 29 #[PV r p a h n, sv l] (PV r p (wd (pst (k3 r) (w3 a) l)) (fun _ => 0) 0) := by
  have hB : leN (l ++ [1]) < 2 ^ 130 := Nat.lt_trans (bl_small hb hl) (by decide)
  have hA := w3_lt ha0 ha1 ha2
  obtain ⟨B, hBe⟩ : ∃ B, B = leN (l ++ [1]) := ⟨_, rfl⟩
  rw [← hBe] at hB
  have hps : pst (k3 r) (w3 a) l = (w3 a + B) % QQ * k3 r % QQ := by rw [hBe]; rfl
  refine fn1 (n := 59) Try.func29 rfl rfl (by simp) (argE [PV r p a h n, sv l] 0) (argE_ok _) ?_
  refine e_seq ?_
  refine e_plain ?_
  refine e_box 0 rfl rfl fun r1 => ?_
  refine e_alloc 1 zer28 rfl fun r2 => ?_
  refine e_nil ?_
  refine e_seq ?_
  refine e_plain ?_
  refine e_move rfl rfl ?_
  refine e_catS (k := [1]) rfl rfl rfl (by simp; omega) ?_
  refine e_assign rfl rfl ?_
  refine e_nil ?_
  refine e_seq ?_
  refine e_block ?_
  refine e_loop (fun kk E m => ∃ (z : Nat), kk = 24 - z ∧ E = [(1, sv l), (2, ptr r1), (4, ptr r2), (5, sv (bl l z))] ∧ m = [(0, some ⟨r1, cells 24 [pI .u64 2 r, pI .u64 2 p, pI .u64 3 a, pI .u8 16 h, pV (.int .i64 n)], 28⟩), (1, some ⟨r2, cells 24 [pI .u64 2 (fun _ => 0), pI .u64 2 (fun _ => 0), pI .u64 3 (fun _ => 0), pI .u8 16 (fun _ => 0), pV (.int .i64 0)], 28⟩)] ∧ (l.length + 1 + z ≤ 24)) [(1, sv l), (2, ptr r1), (4, ptr r2), (5, sv (bl l 0))] [(0, some ⟨r1, cells 24 [pI .u64 2 r, pI .u64 2 p, pI .u64 3 a, pI .u8 16 h, pV (.int .i64 n)], 28⟩), (1, some ⟨r2, cells 24 [pI .u64 2 (fun _ => 0), pI .u64 2 (fun _ => 0), pI .u64 3 (fun _ => 0), pI .u8 16 (fun _ => 0), pV (.int .i64 0)], 28⟩)] (24 - 0) ⟨rfl, rfl, rfl, by rw [← List.append_nil (l ++ [1])]; rfl, trivial⟩ ⟨rfl, rfl, trivial⟩ ⟨0, rfl, rfl, rfl, by omega⟩ ?_
  rintro kk E m ⟨z, rfl, rfl, rfl, hf0_0⟩
  have hbm := bl_len l z
  refine e_seq ?_
  refine e_seq ?_
  refine e_plain ?_
  refine e_move rfl rfl ?_
  refine e_lenStr und9 rfl rfl rfl ?_
  refine e_lt rfl rfl rfl ?_
  refine e_nil ?_
  refine e_cond rfl ?_ ?_
  · intro hc0
    have hc0 := of_decide_eq_true hc0
    refine e_skip ?_
    refine e_block ?_
    refine e_plain ?_
    refine e_move rfl rfl ?_
    refine e_catS (k := [0]) rfl rfl rfl (by rw [bl_len]; simp; omega) ?_
    refine e_assign rfl rfl ?_
    refine e_nil ?_
    refine ⟨_, [(1, sv l), (2, ptr r1), (4, ptr r2), (5, sv (bl l (z + 1)))], [(0, some ⟨r1, cells 24 [pI .u64 2 r, pI .u64 2 p, pI .u64 3 a, pI .u8 16 h, pV (.int .i64 n)], 28⟩), (1, some ⟨r2, cells 24 [pI .u64 2 (fun _ => 0), pI .u64 2 (fun _ => 0), pI .u64 3 (fun _ => 0), pI .u8 16 (fun _ => 0), pV (.int .i64 0)], 28⟩)], ?_, ⟨rfl, rfl, rfl, by rw [← bl_succ]; rfl, trivial⟩, ⟨rfl, rfl, trivial⟩, z + 1, rfl, rfl, rfl, by omega⟩
    omega
  · intro hc0
    have hc0 := of_decide_eq_false hc0
    have hbm : (bl l z).length = 24 := by omega
    have hbb := bl_lt hb z
    refine e_exit ?_
    refine e_seq ?_
    refine e_draw mixed (by kernel_rfl) ?_
    refine e_move rfl rfl ?_
    refine e_sliceStr 0 8 und9 rfl rfl rfl rfl ⟨_, rfl⟩ (by omega) (by omega) rfl ?_
    refine e_call rfl ent23 (number_fn _ (by rw [List.length_take]; omega) (take_lt hbb _ _)) rfl rfl ?_
    refine e_as (show _ = u (w8 (bl l z) 0) from rfl) ?_
    refine e_move rfl rfl ?_
    refine e_sliceStr 8 16 und9 rfl rfl rfl ⟨_, rfl⟩ ⟨_, rfl⟩ (by omega) (by omega) rfl ?_
    refine e_call rfl ent23 (number_fn _ (by rw [List.length_take]; omega) (take_lt hbb _ _)) rfl rfl ?_
    refine e_as (show _ = u (w8 (bl l z) 1) from rfl) ?_
    refine e_move rfl rfl ?_
    refine e_sliceStr 16 24 und9 rfl rfl rfl ⟨_, rfl⟩ ⟨_, rfl⟩ (by omega) (by omega) rfl ?_
    refine e_call rfl ent23 (number_fn _ (by rw [List.length_take]; omega) (take_lt hbb _ _)) rfl rfl ?_
    refine e_as (show _ = u (w8 (bl l z) 2) from rfl) ?_
    refine e_build (arr .u64 3 (w8 (bl l z))) zer25 und25 siz23 rfl rfl rfl ?_
    refine e_call rfl ent25 (partsOf_fn _ (w8_lt hbb 0) (w8_lt hbb 1) (w8_top hb hl hbm)) rfl rfl ?_
    refine e_as (congrArg p5 (((w8_all hbm).trans (bl_leN l z)).trans hBe.symm)) ?_
    refine e_alloc 2 zer54 rfl fun r3 => ?_
    refine e_storeA (i := 2) siz54 rfl rfl (arr_size _ _ _) arr_one rfl (arr_sz _ _ _ _ _) (.inl rfl) ?_
    refine e_nil ?_
    refine e_seq ?_
    refine e_plain ?_
    refine e_fld (4) und28 rfl siz25 rfl rfl rfl ?_
    refine e_ldC (i := 0) 2 und25 rfl siz25 rfl rfl rfl (by decide) rfl ⟨[], trivial⟩ ?_
    refine e_call rfl ent25 (partsOf_fn a ha0 ha1 ha2) rfl rfl ?_
    refine e_alloc 3 zer54 rfl fun r4 => ?_
    refine e_storeA (i := 3) siz54 rfl rfl (arr_size _ _ _) arr_one rfl (arr_sz _ _ _ _ _) (.inl rfl) ?_
    refine e_nil ?_
    refine e_seq ?_
    refine e_seq ?_
    refine e_plain ?_
    refine e_move rfl rfl ?_
    refine e_nil ?_
    refine e_block ?_
    refine e_loop (fun kk E m => ∃ (i : Nat) (s : Nat → Nat), kk = 5 - i ∧ E = [(2, ptr r1), (4, ptr r2), (6, ptr r3), (7, ptr r4), (30, ii i)] ∧ m = [(0, some ⟨r1, cells 24 [pI .u64 2 r, pI .u64 2 p, pI .u64 3 a, pI .u8 16 h, pV (.int .i64 n)], 28⟩), (1, some ⟨r2, cells 24 [pI .u64 2 (fun _ => 0), pI .u64 2 (fun _ => 0), pI .u64 3 (fun _ => 0), pI .u8 16 (fun _ => 0), pV (.int .i64 0)], 28⟩), (2, some ⟨r3, arr .u64 5 (d26 B), 54⟩), (3, some ⟨r4, arr .u64 5 s, 54⟩)] ∧ (i ≤ 5) ∧ (∀ j, j < i → s j = d26 (w3 a) j + d26 B j) ∧ (∀ j, i ≤ j → s j = d26 (w3 a) j)) [(2, ptr r1), (4, ptr r2), (6, ptr r3), (7, ptr r4), (30, ii 0)] [(0, some ⟨r1, cells 24 [pI .u64 2 r, pI .u64 2 p, pI .u64 3 a, pI .u8 16 h, pV (.int .i64 n)], 28⟩), (1, some ⟨r2, cells 24 [pI .u64 2 (fun _ => 0), pI .u64 2 (fun _ => 0), pI .u64 3 (fun _ => 0), pI .u8 16 (fun _ => 0), pV (.int .i64 0)], 28⟩), (2, some ⟨r3, arr .u64 5 (d26 B), 54⟩), (3, some ⟨r4, arr .u64 5 (d26 (w3 a)), 54⟩)] (5 - 0) ⟨rfl, rfl, rfl, rfl, rfl, trivial⟩ ⟨rfl, rfl, rfl, rfl, trivial⟩ ⟨0, d26 (w3 a), rfl, rfl, rfl, by omega, fun j hj => absurd hj (Nat.not_lt_zero j), fun j _ => rfl⟩ ?_
    rintro kk E m ⟨i, s, rfl, rfl, rfl, hf1_0, hf1_1, hf1_2⟩
    have hd1 := d26_lt (w3 a) i
    have hd2 := d26_lt B i
    have hsi := hf1_2 i (Nat.le_refl i)
    refine e_seq ?_
    refine e_plain ?_
    refine e_lt rfl rfl rfl ?_
    refine e_nil ?_
    refine e_seq ?_
    refine e_cond rfl ?_ ?_
    · intro hc1
      have hc1 := of_decide_eq_true hc1
      refine e_skip ?_
      refine e_seq ?_
      refine e_block ?_
      refine e_seq ?_
      refine e_plain ?_
      refine e_move rfl rfl ?_
      refine e_assign rfl rfl ?_
      refine e_nil ?_
      refine e_draw mixed (by kernel_rfl) ?_
      refine e_move rfl rfl ?_
      refine e_index0 und54 siz23 rfl rfl (by omega) rfl ?_
      refine e_load1 (i := 3) und23 rfl rfl rfl (arr_get (by omega)) rfl ⟨[], trivial⟩ ?_
      refine e_move rfl rfl ?_
      refine e_index0 und54 siz23 rfl rfl (by omega) rfl ?_
      refine e_load1 (i := 2) und23 rfl rfl rfl (arr_get (by omega)) rfl ⟨[], trivial⟩ ?_
      refine e_add_u rfl rfl rfl  ?_
      refine e_as (congrArg u (Nat.mod_eq_of_lt (show s i + d26 B i < 18446744073709551616 by omega))) ?_
      refine e_index0 und54 siz23 rfl rfl (by omega) rfl ?_
      refine e_storeN (i := 3) siz23 rfl rfl rfl (by omega) (.inl rfl) ?_
      refine e_nil ?_
      refine e_plain ?_
      refine e_add_i (q := 1) rfl rfl rfl (by omega) ?_
      refine e_move rfl rfl ?_
      refine e_nil ?_
      refine ⟨_, [(2, ptr r1), (4, ptr r2), (6, ptr r3), (7, ptr r4), (30, ii (i + 1))], [(0, some ⟨r1, cells 24 [pI .u64 2 r, pI .u64 2 p, pI .u64 3 a, pI .u8 16 h, pV (.int .i64 n)], 28⟩), (1, some ⟨r2, cells 24 [pI .u64 2 (fun _ => 0), pI .u64 2 (fun _ => 0), pI .u64 3 (fun _ => 0), pI .u8 16 (fun _ => 0), pV (.int .i64 0)], 28⟩), (2, some ⟨r3, arr .u64 5 (d26 B), 54⟩), (3, some ⟨r4, arr .u64 5 (upd s i _), 54⟩)], ?_, ⟨rfl, rfl, rfl, rfl, rfl, trivial⟩, ⟨rfl, rfl, rfl, rfl, trivial⟩, i + 1, upd s i _, rfl, rfl, rfl, by omega, upd_lt hf1_1 (by rw [hf1_2 i (Nat.le_refl i)]), upd_ge hf1_2⟩
      omega
    · intro hc1
      have hc1 := of_decide_eq_false hc1
      have hi5 : i = 5 := by omega
      subst hi5
      refine e_exit ?_
      refine e_seq ?_
      refine e_draw mixed (by kernel_rfl) ?_
      refine e_loadA (i := 3) und54 rfl siz54 rfl rfl (arr_size _ _ _) rfl ⟨[], trivial⟩ ?_
      refine e_as (congrArg Value.agg (arr_congr hf1_1)) ?_
      refine e_call rfl ent26 (carried_fn _ (fun j _ => by have := d26_lt (w3 a) j; have := d26_lt B j; omega)) rfl rfl ?_
      refine e_as (congrArg (fun z => p5 (z % QQ)) (add_five _ _ hA hB)) ?_
      refine e_fld (0) und28 rfl siz24 rfl rfl rfl ?_
      refine e_index0 (j := 0) und24 siz23 rfl rfl (by omega) rfl ?_
      refine e_ldI (i := 0) 0 (0) und23 rfl rfl rfl rfl rfl (by decide) (by decide) rfl ⟨[], trivial⟩ ?_
      refine e_fld (0) und28 rfl siz24 rfl rfl rfl ?_
      refine e_index0 (j := 1) und24 siz23 rfl rfl (by omega) rfl ?_
      refine e_ldI (i := 0) 0 (1) und23 rfl rfl rfl rfl rfl (by decide) (by decide) rfl ⟨[], trivial⟩ ?_
      refine e_build (arr .u64 3 (upd r 2 0)) zer25 und25 siz23 rfl rfl rfl ?_
      refine e_call rfl ent25 (partsOf_fn (upd r 2 0) hr0 hr1 (by rw [upd_on]; decide)) rfl rfl ?_
      refine e_as (congrArg p5 (w3_k3 r)) ?_
      refine e_call rfl ent35 (times5_fn _ _ (mod_lt30 _) (k3_lt hr0 hr1)) rfl rfl ?_
      refine e_as (congrArg p5 hps.symm) ?_
      refine e_call rfl ent27 (whole_fn _ (mod_lt30 _)) rfl rfl ?_
      refine e_fld (4) und28 rfl siz25 rfl rfl rfl ?_
      refine e_stC (i := 0) 2 siz25 rfl rfl rfl rfl (by decide) (.inl rfl) ?_
      refine e_nil ?_
      refine e_seq ?_
      refine e_plain ?_
      refine e_build0 zer26 und26 sis5 rfl ?_
      refine e_fld (7) und28 rfl siz26 rfl rfl rfl ?_
      refine e_stC (i := 0) 3 siz26 rfl rfl rfl rfl (by decide) (.inl rfl) ?_
      refine e_fld (23) und28 rfl siz3 rfl rfl rfl ?_
      refine e_stV (i := 0) 4 siz3 rfl rfl rfl rfl rfl (by decide) (.inl rfl) ?_
      refine e_nil ?_
      refine e_seq ?_
      refine e_plain ?_
      refine e_loadA (i := 0) und28 rfl siz28 rfl rfl (arrv_size _ _) rfl ⟨[], trivial⟩ ?_
      refine e_as (show _ = PV r p (wd (pst (k3 r) (w3 a) l)) (fun _ => 0) 0 from rfl) ?_
      refine e_storeA (i := 1) siz28 rfl rfl (arrv_size _ _) (cells_one ⟨fun _ => rfl, fun _ => rfl, fun _ => rfl, fun _ => rfl, fun _ => rfl, trivial⟩) rfl cells_sz (.inl rfl) ?_
      refine e_nil ?_
      refine e_ret ?_
      exact ⟨_, rfl, .cell (i := 1) rfl rfl und28 rfl siz28 (arrv_size _ _)⟩

end Go.Proofs.Ytmnmhmpklknleaa

/-
  Walks, written by a program of ours off the loaded functions.
-/
namespace Go.Proofs.Ytmnmhmpklknleaa
open Go Go.RowKit


theorem pls28 (w : World) : (((#[.mk "R" 24 0 false "" "" 0, .mk "Pad" 24 2 false "" "" 16, .mk "Acc" 25 4 false "" "" 32, .mk "Held" 26 7 false "" "" 56, .mk "N" 3 23 false "" "" 72] : Array Field).mapM fun f => do pure (f.offset, ← sizeOf f.type) : Sem (Array (Nat × Nat)))).run Try.prog w = .ok #[(0, 2), (2, 2), (4, 3), (7, 16), (23, 1)] w := places_run (l := [(0, 2), (2, 2), (4, 3), (7, 16), (23, 1)]) (by kernel_rfl) w
theorem und46 : Try.prog.underlying 46 = some (.array 32 5) := by kernel_rfl
theorem zer24 : (Try.prog.info? 24).bind (·.zero) = some (.agg (arr .u64 2 fun _ => 0)) := by kernel_rfl

variable {G : Mem}

set_option maxHeartbeats 2000000 in
theorem begun_fn (f : Nat → Nat) (hf : ∀ j, j < 32 → f j < 256) : Fn Try.prog G 11 #[.agg (arr .u8 32 f)] (PV (w8 (bL f)) (fun j => w8 (bL f) (j + 2)) (fun _ => 0) (fun _ => 0) 0) := by
  have hLl := bL_len f
  have hLb := bL_lt hf
  refine fn1 (n := 43) Try.func11 rfl rfl (by simp) (argE [.agg (arr .u8 32 f)] 0) (argE_ok _) ?_
  refine e_seq ?_
  refine e_plain ?_
  refine e_box 0 rfl rfl fun r1 => ?_
  refine e_alloc 1 zer28 rfl fun r2 => ?_
  refine e_nil ?_
  refine e_seq ?_
  refine e_seq ?_
  refine e_plain ?_
  refine e_move rfl rfl ?_
  refine e_nil ?_
  refine e_block ?_
  refine e_loop (fun kk E m => ∃ (i : Nat) (s : Nat → Nat), kk = 4 - i ∧ E = [(1, ptr r1), (2, ptr r2), (6, ii i)] ∧ m = [(0, some ⟨r1, arr .u8 32 s, 46⟩), (1, some ⟨r2, cells 24 [pI .u64 2 (fun _ => 0), pI .u64 2 (fun _ => 0), pI .u64 3 (fun _ => 0), pI .u8 16 (fun _ => 0), pV (.int .i64 0)], 28⟩)] ∧ (i ≤ 4) ∧ (∀ j, s j = mk1 f i j)) [(1, ptr r1), (2, ptr r2), (6, ii 0)] [(0, some ⟨r1, arr .u8 32 f, 46⟩), (1, some ⟨r2, cells 24 [pI .u64 2 (fun _ => 0), pI .u64 2 (fun _ => 0), pI .u64 3 (fun _ => 0), pI .u8 16 (fun _ => 0), pV (.int .i64 0)], 28⟩)] (4 - 0) ⟨rfl, rfl, rfl, trivial⟩ ⟨rfl, rfl, trivial⟩ ⟨0, f, rfl, rfl, rfl, by omega, fun j => by unfold mk1; rw [if_neg (by omega)]⟩ ?_
  rintro kk E m ⟨i, s, rfl, rfl, rfl, hf0_0, hf0_1⟩
  refine e_seq ?_
  refine e_plain ?_
  refine e_lt rfl rfl rfl ?_
  refine e_nil ?_
  refine e_seq ?_
  refine e_cond rfl ?_ ?_
  · intro hc0
    have hc0 := of_decide_eq_true hc0
    refine e_skip ?_
    refine e_seq ?_
    refine e_block ?_
    refine e_seq ?_
    refine e_plain ?_
    refine e_move rfl rfl ?_
    refine e_assign rfl rfl ?_
    refine e_nil ?_
    refine e_plain ?_
    refine e_move rfl rfl ?_
    refine e_mul_i (p := 4) rfl rfl rfl (by omega) ?_
    refine e_add_i (q := 3) rfl rfl rfl (by omega) ?_
    refine e_index0 und46 siz5 rfl rfl (by omega) rfl ?_
    refine e_load1 (i := 0) und5 rfl rfl rfl (arr_get (by omega)) rfl ⟨[], trivial⟩ ?_
    refine e_and_b (q := 15) rfl rfl rfl  ?_
    refine e_index0 und46 siz5 rfl rfl (by omega) rfl ?_
    refine e_storeN (i := 0) siz5 rfl rfl rfl (by omega) (.inl rfl) ?_
    refine e_nil ?_
    refine e_plain ?_
    refine e_add_i (q := 1) rfl rfl rfl (by omega) ?_
    refine e_move rfl rfl ?_
    refine e_nil ?_
    refine ⟨_, [(1, ptr r1), (2, ptr r2), (6, ii (i + 1))], [(0, some ⟨r1, arr .u8 32 (upd s (4 * i + 3) _), 46⟩), (1, some ⟨r2, cells 24 [pI .u64 2 (fun _ => 0), pI .u64 2 (fun _ => 0), pI .u64 3 (fun _ => 0), pI .u8 16 (fun _ => 0), pV (.int .i64 0)], 28⟩)], ?_, ⟨rfl, rfl, rfl, trivial⟩, ⟨rfl, rfl, trivial⟩, i + 1, upd s (4 * i + 3) _, rfl, rfl, rfl, by omega, mk1_next hf0_1⟩
    omega
  · intro hc0
    have hc0 := of_decide_eq_false hc0
    have hi4 : i = 4 := by omega
    subst hi4
    refine e_exit ?_
    refine e_seq ?_
    refine e_seq ?_
    refine e_plain ?_
    refine e_assign rfl rfl ?_
    refine e_nil ?_
    refine e_block ?_
    refine e_loop (fun kk E m => ∃ (e : Nat) (q : Nat → Nat), kk = 3 - e ∧ E = [(1, ptr r1), (2, ptr r2), (4, ii (4 * (e + 1)))] ∧ m = [(0, some ⟨r1, arr .u8 32 q, 46⟩), (1, some ⟨r2, cells 24 [pI .u64 2 (fun _ => 0), pI .u64 2 (fun _ => 0), pI .u64 3 (fun _ => 0), pI .u8 16 (fun _ => 0), pV (.int .i64 0)], 28⟩)] ∧ (e ≤ 3) ∧ (∀ j, q j = mk2 f e j)) [(1, ptr r1), (2, ptr r2), (4, ii (4 * (0 + 1)))] [(0, some ⟨r1, arr .u8 32 s, 46⟩), (1, some ⟨r2, cells 24 [pI .u64 2 (fun _ => 0), pI .u64 2 (fun _ => 0), pI .u64 3 (fun _ => 0), pI .u8 16 (fun _ => 0), pV (.int .i64 0)], 28⟩)] (3 - 0) ⟨rfl, rfl, rfl, trivial⟩ ⟨rfl, rfl, trivial⟩ ⟨0, s, rfl, rfl, rfl, by omega, fun j => (hf0_1 j).trans (mk1_mk2 j)⟩ ?_
    rintro kk E m ⟨e, q, rfl, rfl, rfl, hf1_0, hf1_1⟩
    refine e_seq ?_
    refine e_seq ?_
    refine e_plain ?_
    refine e_move rfl rfl ?_
    refine e_lt rfl rfl rfl ?_
    refine e_nil ?_
    refine e_cond rfl ?_ ?_
    · intro hc1
      have hc1 := of_decide_eq_true hc1
      refine e_skip ?_
      refine e_seq ?_
      refine e_block ?_
      refine e_plain ?_
      refine e_move rfl rfl ?_
      refine e_index0 und46 siz5 rfl rfl (by omega) rfl ?_
      refine e_load1 (i := 0) und5 rfl rfl rfl (arr_get (by omega)) rfl ⟨[], trivial⟩ ?_
      refine e_and_b (q := 252) rfl rfl rfl  ?_
      refine e_index0 und46 siz5 rfl rfl (by omega) rfl ?_
      refine e_storeN (i := 0) siz5 rfl rfl rfl (by omega) (.inl rfl) ?_
      refine e_nil ?_
      refine e_plain ?_
      refine e_move rfl rfl ?_
      refine e_add_i (q := 4) rfl rfl rfl (by omega) ?_
      refine e_assign rfl rfl ?_
      refine e_nil ?_
      refine ⟨_, [(1, ptr r1), (2, ptr r2), (4, ii (4 * ((e + 1) + 1)))], [(0, some ⟨r1, arr .u8 32 (upd q (4 * (e + 1)) _), 46⟩), (1, some ⟨r2, cells 24 [pI .u64 2 (fun _ => 0), pI .u64 2 (fun _ => 0), pI .u64 3 (fun _ => 0), pI .u8 16 (fun _ => 0), pV (.int .i64 0)], 28⟩)], ?_, ⟨rfl, rfl, rfl, trivial⟩, ⟨rfl, rfl, trivial⟩, e + 1, upd q (4 * (e + 1)) _, rfl, rfl, rfl, by omega, mk2_next (by omega) hf1_1⟩
      omega
    · intro hc1
      have hc1 := of_decide_eq_false hc1
      have he3 : e = 3 := by omega
      subst he3
      refine e_exit ?_
      refine e_seq ?_
      refine e_plain ?_
      refine e_sliceA 0 32 und46 siz5 rfl rfl rfl rfl rfl (by omega) (by omega) (by omega) rfl ?_
      refine e_conv_str (i := 0) und33 und5 und9 rfl rfl (by omega) rfl rfl ⟨[], trivial⟩ ?_
      refine e_as ((conv_all q 32).trans (congrArg sv (bL_of hf1_1))) ?_
      refine e_assign rfl rfl ?_
      refine e_nil ?_
      refine e_seq ?_
      refine e_draw mixed (by kernel_rfl) ?_
      refine e_move rfl rfl ?_
      refine e_sliceStr 0 8 und9 rfl rfl rfl rfl ⟨_, rfl⟩ (by omega) (by omega) rfl ?_
      refine e_call rfl ent23 (number_fn _ (by rw [List.length_take]; omega) (take_lt hLb _ _)) rfl rfl ?_
      refine e_as (show _ = u (w8 (bL f) 0) from rfl) ?_
      refine e_move rfl rfl ?_
      refine e_sliceStr 8 16 und9 rfl rfl rfl ⟨_, rfl⟩ ⟨_, rfl⟩ (by omega) (by omega) rfl ?_
      refine e_call rfl ent23 (number_fn _ (by rw [List.length_take]; omega) (take_lt hLb _ _)) rfl rfl ?_
      refine e_as (show _ = u (w8 (bL f) 1) from rfl) ?_
      refine e_build (arr .u64 2 (w8 (bL f))) zer24 und24 siz23 rfl rfl rfl ?_
      refine e_move rfl rfl ?_
      refine e_sliceStr 16 24 und9 rfl rfl rfl ⟨_, rfl⟩ ⟨_, rfl⟩ (by omega) (by omega) rfl ?_
      refine e_call rfl ent23 (number_fn _ (by rw [List.length_take]; omega) (take_lt hLb _ _)) rfl rfl ?_
      refine e_as (show _ = u (w8 (bL f) (0 + 2)) from rfl) ?_
      refine e_move rfl rfl ?_
      refine e_sliceStr 24 32 und9 rfl rfl rfl ⟨_, rfl⟩ hLl.symm (by omega) (by omega) rfl ?_
      refine e_call rfl ent23 (number_fn _ (by rw [List.length_take]; omega) (take_lt hLb _ _)) rfl rfl ?_
      refine e_as (show _ = u (w8 (bL f) (1 + 2)) from rfl) ?_
      refine e_build (arr .u64 2 (fun j => w8 (bL f) (j + 2))) zer24 und24 siz23 rfl rfl rfl ?_
      refine e_buildS (cells 24 [pI .u64 2 (w8 (bL f)), pI .u64 2 (fun j => w8 (bL f) (j + 2)), pI .u64 3 (fun _ => 0), pI .u8 16 (fun _ => 0), pV (.int .i64 0)]) zer28 und28 pls28 rfl rfl rfl ?_
      refine e_storeA (i := 1) siz28 rfl rfl (arrv_size _ _) (cells_one ⟨fun _ => rfl, fun _ => rfl, fun _ => rfl, fun _ => rfl, fun _ => rfl, trivial⟩) rfl cells_sz (.inl rfl) ?_
      refine e_nil ?_
      refine e_ret ?_
      exact ⟨_, rfl, .cell (i := 1) rfl rfl und28 rfl siz28 (arrv_size _ _)⟩

end Go.Proofs.Ytmnmhmpklknleaa
