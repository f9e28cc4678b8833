import Derived.Test.YtpmgjnfllnokjaaDoorKZ4
import Derived.Test.YtpmgjnfllnokjaaDoorKZ2
import Derived.Test.YtpmgjnfllnokjaaDoorKZ3

/-
  Plain arithmetic of digits to the base 2^26, by 2^130 - 5.
-/
namespace Go.Proofs.YtpmgjnfllnokjaaDoor

def d26 (x j : Nat) : Nat := x / 2 ^ (26 * j) % 67108864
abbrev p5 (x : Nat) : Value := .agg (arr .u64 5 (d26 x))
theorem d26_lt (x j : Nat) : d26 x j < 67108864 := Nat.mod_lt _ (by decide)
def v26 (f : Nat → Nat) : Nat → Nat
  | 0 => 0
  | k + 1 => v26 f k + f k * 2 ^ (26 * k)

theorem v26_succ (f : Nat → Nat) (k : Nat) : v26 f (k + 1) = v26 f k + f k * 2 ^ (26 * k) := rfl

theorem pow_pos26 (k : Nat) : 0 < 2 ^ (26 * k) := Nat.pow_pos (by decide)
theorem pow_succ26 (k : Nat) : 2 ^ (26 * (k + 1)) = 2 ^ (26 * k) * 67108864 := by rw [show 26 * (k + 1) = 26 * k + 26 by omega, Nat.pow_add]
theorem v26_congr {f g : Nat → Nat} : ∀ k, (∀ j, j < k → f j = g j) → v26 f k = v26 g k
  | 0, _ => rfl
  | k + 1, h => by unfold v26; rw [v26_congr k (fun j hj => h j (by omega)), h k (by omega)]
theorem v26_lt (f : Nat → Nat) : ∀ k, (∀ j, j < k → f j < 67108864) → v26 f k < 2 ^ (26 * k)
  | 0, _ => by simp [v26]
  | k + 1, h => by
    have h1 := v26_lt f k (fun j hj => h j (by omega))
    have h2 := h k (by omega)
    unfold v26
    have h3 : f k * 2 ^ (26 * k) ≤ 67108863 * 2 ^ (26 * k) := Nat.mul_le_mul_right _ (by omega)
    rw [pow_succ26]; omega
theorem v26_d26 (x : Nat) : ∀ k, v26 (d26 x) k = x % 2 ^ (26 * k)
  | 0 => by simp [v26, Nat.mod_one]
  | k + 1 => by
    unfold v26
    rw [v26_d26 x k, pow_succ26, Nat.mod_mul, Nat.mul_comm (2 ^ (26 * k))]
    rfl
theorem v26_upd (f : Nat → Nat) (k v : Nat) : ∀ n, k < n → v26 (upd f k v) n + f k * 2 ^ (26 * k) = v26 f n + v * 2 ^ (26 * k)
  | 0, h => by omega
  | n + 1, h => by
    unfold v26
    by_cases e : k = n
    · subst e
      have h1 : v26 (upd f k v) k = v26 f k := v26_congr k fun j hj => by unfold upd; rw [if_neg (by omega)]
      have h2 : upd f k v k = v := by unfold upd; rw [if_pos rfl]
      rw [h1, h2]; omega
    · have ih := v26_upd f k v n (by omega)
      have h2 : upd f k v n = f n := by unfold upd; rw [if_neg (fun h => e h.symm)]
      rw [h2]; omega
theorem d26_low (s t i k : Nat) (h : i < k) : d26 (s + t * 2 ^ (26 * k)) i = d26 s i := by
  unfold d26
  have e : (2 : Nat) ^ (26 * k) = 2 ^ (26 * i) * (67108864 * 2 ^ (26 * (k - i - 1))) := by
    rw [show (67108864 : Nat) = 2 ^ 26 by decide, ← Nat.pow_add, ← Nat.pow_add]; congr 1; omega
  rw [e, ← Nat.mul_assoc, Nat.mul_comm t, Nat.mul_assoc, Nat.add_mul_div_left _ _ (pow_pos26 i), ← Nat.mul_assoc, Nat.mul_comm t, Nat.mul_assoc, Nat.add_mul_mod_self_left]
theorem d26_v26 (f : Nat → Nat) : ∀ n, (∀ j, j < n → f j < 67108864) → ∀ j, j < n → d26 (v26 f n) j = f j
  | 0, _, j, h => by omega
  | n + 1, hf, j, h => by
    have h1 := v26_lt f n (fun j hj => hf j (by omega))
    unfold v26
    by_cases e : j = n
    · subst e
      unfold d26
      rw [Nat.mul_comm (f j), Nat.add_mul_div_left _ _ (pow_pos26 j), Nat.div_eq_of_lt h1, Nat.zero_add]
      exact Nat.mod_eq_of_lt (hf j (by omega))
    · rw [d26_low _ _ j n (by omega)]
      exact d26_v26 f n (fun j hj => hf j (by omega)) j (by omega)
theorem v26_step {s : Nat → Nat} {j v : Nat} : v26 (upd s j v) (j + 1) = v26 s j + v * 2 ^ (26 * j) := by
  have := v26_upd s j v (j + 1) (by omega)
  have h2 : v26 s (j + 1) = v26 s j + s j * 2 ^ (26 * j) := rfl
  omega
theorem carry26 {s s2 : Nat → Nat} {j c : Nat} (h : v26 s2 j + c * 2 ^ (26 * j) = v26 s j) (hs : s2 j = s j) :
    v26 (upd s2 j ((c + s2 j) % 67108864)) (j + 1) + (c + s2 j) / 67108864 * 2 ^ (26 * (j + 1)) = v26 s (j + 1) := by
  rw [v26_step, pow_succ26]
  have h2 : v26 s (j + 1) = v26 s j + s j * 2 ^ (26 * j) := rfl
  rw [h2, ← hs, ← h]
  have e := Nat.div_add_mod (c + s2 j) 67108864
  have e2 : (c + s2 j) % 67108864 * 2 ^ (26 * j) + (c + s2 j) / 67108864 * (2 ^ (26 * j) * 67108864) = (c + s2 j) * 2 ^ (26 * j) := by
    conv => rhs; rw [← e]
    rw [Nat.add_mul, Nat.mul_comm 67108864, Nat.mul_assoc, Nat.mul_comm 67108864]
    omega
  rw [Nat.add_mul] at e2
  omega

def QQ : Nat := 2 ^ 130 - 5
theorem QQ_eq : QQ = 1361129467683753853853498429727072845819 := by decide
theorem QQ_pos : 0 < QQ := by decide
theorem v26_five (f : Nat → Nat) : v26 f 5 = f 0 + f 1 * 67108864 + f 2 * 4503599627370496 + f 3 * 302231454903657293676544 + f 4 * 20282409603651670423947251286016 := by
  simp only [v26]
  omega
/-- One round of carries: what is above comes in below, five times. -/
def bnd5 (k : Nat) : Nat := if k = 0 then 2 ^ 130 * 2 ^ 35 else if k = 1 then 2 ^ 130 + 2 ^ 38 else 2 ^ 130
theorem bnd5_next (T k : Nat) (h : T < bnd5 k) : T % 2 ^ 130 + 5 * (T / 2 ^ 130) < bnd5 (k + 1) := by
  unfold bnd5 at *
  by_cases h0 : k = 0
  · subst h0; simp at h ⊢; omega
  · by_cases h1 : k = 1
    · subst h1; simp at h ⊢; omega
    · rw [if_neg h0, if_neg h1] at h
      rw [if_neg (by omega), if_neg (by omega)]; omega
theorem round5 (T : Nat) : (T % 2 ^ 130 + 5 * (T / 2 ^ 130)) % QQ = T % QQ := by
  have e := Nat.div_add_mod T (2 ^ 130)
  generalize T / 2 ^ 130 = h at *
  generalize T % 2 ^ 130 = l at *
  have e3 : T = l + 5 * h + QQ * h := by rw [QQ_eq]; omega
  rw [e3, Nat.add_mul_mod_self_left]
theorem v26_bound (f : Nat → Nat) (hf : ∀ j, j < 5 → f j < 2 ^ 60) : v26 f 5 < bnd5 0 := by
  rw [v26_five]
  have h0 := hf 0 (by decide)
  have h1 := hf 1 (by decide)
  have h2 := hf 2 (by decide)
  have h3 := hf 3 (by decide)
  have h4 := hf 4 (by decide)
  unfold bnd5
  simp
  omega
theorem p5_of {f : Nat → Nat} {x : Nat} (hf : ∀ j, j < 5 → f j < 67108864) (h : v26 f 5 = x) : Value.agg (arr .u64 5 f) = p5 x := by
  rw [p5, ← h]
  congr 1
  exact arr_congr fun j hj => (d26_v26 f 5 hf j hj).symm

end Go.Proofs.YtpmgjnfllnokjaaDoor

/-
  Plain arithmetic of the one-time sum: words to digits of 26 bits and back, carries, products by 2^130 - 5.
-/
namespace Go.Proofs.YtpmgjnfllnokjaaDoor

theorem m26 (x : Nat) : (x &&& 67108863) % 18446744073709551616 = x % 67108864 := by
  have h := Nat.and_two_pow_sub_one_eq_mod x 26
  rw [show (2 : Nat) ^ 26 - 1 = 67108863 by decide] at h
  rw [h]
  have : x % 2 ^ 26 < 2 ^ 26 := Nat.mod_lt _ (by decide)
  rw [Nat.mod_eq_of_lt (by omega)]
theorem orW (a b k : Nat) (hk : k ≤ 64) (ha : a < 2 ^ k) : (a ||| b * 2 ^ k % 18446744073709551616) % 18446744073709551616 = (a + b * 2 ^ k) % 18446744073709551616 := by
  have e64 : (18446744073709551616 : Nat) = 2 ^ (64 - k) * 2 ^ k := by rw [← Nat.pow_add, Nat.sub_add_cancel hk]
  have hb : b * 2 ^ k % 18446744073709551616 = b % 2 ^ (64 - k) * 2 ^ k := by rw [e64, Nat.mul_mod_mul_right]
  have ho : a ||| b % 2 ^ (64 - k) * 2 ^ k = a + b % 2 ^ (64 - k) * 2 ^ k := by
    rw [Nat.or_comm, Nat.mul_comm, ← Nat.two_pow_add_eq_or_of_lt ha, Nat.add_comm]
  rw [hb, ho, ← hb, Nat.add_mod_mod]

def w3 (f : Nat → Nat) : Nat := f 0 + f 1 * 2 ^ 64 + f 2 * 2 ^ 128
section
variable {f : Nat → Nat}
theorem w3_lt (h0 : f 0 < 18446744073709551616) (h1 : f 1 < 18446744073709551616) (h2 : f 2 < 4) : w3 f < 2 ^ 130 := by unfold w3; omega
theorem po0 : (f 0 &&& 67108863) % 18446744073709551616 = d26 (w3 f) 0 := by
  rw [m26]; unfold d26 w3; simp only [Nat.mul_zero, Nat.pow_zero, Nat.div_one]; omega
theorem po1 : (f 0 / 2 ^ 26 &&& 67108863) % 18446744073709551616 = d26 (w3 f) 1 := by
  rw [m26]; unfold d26 w3; simp only [Nat.reduceMul]; omega
theorem po2 (h0 : f 0 < 18446744073709551616) : ((f 0 / 2 ^ 52 ||| f 1 * 2 ^ 12 % 18446744073709551616) % 18446744073709551616 &&& 67108863) % 18446744073709551616 = d26 (w3 f) 2 := by
  rw [m26, orW _ _ 12 (by decide) (by omega)]; unfold d26 w3; simp only [Nat.reduceMul]; omega
theorem po3 (h0 : f 0 < 18446744073709551616) : (f 1 / 2 ^ 14 &&& 67108863) % 18446744073709551616 = d26 (w3 f) 3 := by
  rw [m26]; unfold d26 w3; simp only [Nat.reduceMul]; omega
theorem po4 (h0 : f 0 < 18446744073709551616) (h1 : f 1 < 18446744073709551616) (h2 : f 2 < 4) : (f 1 / 2 ^ 40 ||| f 2 * 2 ^ 24 % 18446744073709551616) % 18446744073709551616 = d26 (w3 f) 4 := by
  rw [orW _ _ 24 (by decide) (by omega)]; unfold d26 w3; simp only [Nat.reduceMul]; omega
end
section
variable {x : Nat}
theorem x_five (hx : x < 2 ^ 130) : x = d26 x 0 + d26 x 1 * 67108864 + d26 x 2 * 4503599627370496 + d26 x 3 * 302231454903657293676544 + d26 x 4 * 20282409603651670423947251286016 := by
  have h := v26_d26 x 5
  rw [v26_five] at h
  rw [h]
  exact (Nat.mod_eq_of_lt hx).symm
theorem wh0 (hx : x < 2 ^ 130) : ((d26 x 0 ||| d26 x 1 * 2 ^ 26 % 18446744073709551616) % 18446744073709551616 ||| d26 x 2 * 2 ^ 52 % 18446744073709551616) % 18446744073709551616 = wd x 0 := by
  have e := x_five hx
  have l0 := d26_lt x 0
  have l1 := d26_lt x 1
  have l2 := d26_lt x 2
  have l3 := d26_lt x 3
  rw [orW _ _ 26 (by decide) (by omega), orW _ _ 52 (by decide) (by omega)]
  unfold wd
  generalize d26 x 0 = a at *
  generalize d26 x 1 = b at *
  generalize d26 x 2 = c at *
  generalize d26 x 3 = d at *
  generalize d26 x 4 = g at *
  simp only [Nat.mul_zero, Nat.pow_zero, Nat.div_one]
  omega
theorem wh1 (hx : x < 2 ^ 130) : ((d26 x 2 / 2 ^ 12 ||| d26 x 3 * 2 ^ 14 % 18446744073709551616) % 18446744073709551616 ||| d26 x 4 * 2 ^ 40 % 18446744073709551616) % 18446744073709551616 = wd x 1 := by
  have e := x_five hx
  have l0 := d26_lt x 0
  have l1 := d26_lt x 1
  have l2 := d26_lt x 2
  have l3 := d26_lt x 3
  rw [orW _ _ 14 (by decide) (by omega), orW _ _ 40 (by decide) (by omega)]
  unfold wd
  generalize d26 x 0 = a at *
  generalize d26 x 1 = b at *
  generalize d26 x 2 = c at *
  generalize d26 x 3 = d at *
  generalize d26 x 4 = g at *
  simp only [Nat.reduceMul]
  omega
theorem wh2 (hx : x < 2 ^ 130) : d26 x 4 / 2 ^ 24 = wd x 2 := by
  have e := x_five hx
  have l0 := d26_lt x 0
  have l1 := d26_lt x 1
  have l2 := d26_lt x 2
  have l3 := d26_lt x 3
  have l4 := d26_lt x 4
  unfold wd
  generalize d26 x 0 = a at *
  generalize d26 x 1 = b at *
  generalize d26 x 2 = c at *
  generalize d26 x 3 = d at *
  generalize d26 x 4 = g at *
  simp only [Nat.reduceMul]
  omega
end
/-- After one round of carries. -/
theorem rnd_end5 {s s2 : Nat → Nat} {c : Nat} (h : v26 s2 5 + c * 2 ^ (26 * 5) = v26 s 5) (hl : ∀ j, j < 5 → s2 j < 67108864) : v26 s2 5 = v26 s 5 % 2 ^ 130 ∧ c = v26 s 5 / 2 ^ 130 := by
  have h1 := v26_lt s2 5 hl
  simp only [Nat.reduceMul] at h h1
  generalize v26 s2 5 = A at *
  generalize v26 s 5 = B at *
  omega
theorem rnd_next5 {s s2 : Nat → Nat} {c : Nat} (h : v26 s2 5 + c * 2 ^ (26 * 5) = v26 s 5) (hl : ∀ j, j < 5 → s2 j < 67108864) : v26 (upd s2 0 (s2 0 + 5 * c)) 5 = v26 s 5 % 2 ^ 130 + 5 * (v26 s 5 / 2 ^ 130) := by
  obtain ⟨h1, h2⟩ := rnd_end5 h hl
  have h3 := v26_upd s2 0 (s2 0 + 5 * c) 5 (by decide)
  rw [Nat.mul_zero, Nat.pow_zero, Nat.mul_one, Nat.mul_one] at h3
  rw [← h1, ← h2]
  omega
theorem rnd_last {s s2 : Nat → Nat} {c k : Nat} (h : v26 s2 5 + c * 2 ^ (26 * 5) = v26 s 5) (hl : ∀ j, j < 5 → s2 j < 67108864) (hb : v26 s 5 < bnd5 k) : k + 1 = 3 → ∀ j, j < 5 → upd s2 0 (s2 0 + 5 * c) j < 67108864 := by
  intro hk j hj
  have hk2 : k = 2 := by omega
  subst hk2
  have h1 := (rnd_end5 h hl).2
  have h2 : c = 0 := by rw [h1]; exact Nat.div_eq_of_lt hb
  subst h2
  unfold upd
  split
  · exact hl 0 (by decide)
  · exact hl j hj
theorem rnd_small {s2 : Nat → Nat} {c : Nat} (hl : ∀ j, j < 5 → s2 j < 67108864) (hc : c < 34359738368) : ∀ j, j < 5 → upd s2 0 (s2 0 + 5 * c) j < 1152921504606846976 := by
  intro j hj
  have h1 := hl j hj
  have h2 := hl 0 (by decide)
  unfold upd
  split <;> omega
theorem upd_off {f : Nat → Nat} {j v t : Nat} (h : t ≠ j) : upd f j v t = f t := by unfold upd; rw [if_neg h]
theorem upd_on {f : Nat → Nat} {j v : Nat} : upd f j v j = v := by unfold upd; rw [if_pos rfl]
theorem mod_below {s : Nat → Nat} {k v : Nat} (h : ∀ j, j < k → s j < 67108864) : ∀ j, j < k + 1 → upd s k (v % 67108864) j < 67108864 := by
  intro j hj
  unfold upd
  split
  · exact Nat.mod_lt _ (by decide)
  · exact h j (by omega)
theorem q_start {s : Nat → Nat} : v26 (upd s 0 (s 0 + 5)) 5 = v26 s 5 + 5 := by
  have h := v26_upd s 0 (s 0 + 5) 5 (by decide)
  rw [Nat.mul_zero, Nat.pow_zero, Nat.mul_one, Nat.mul_one] at h
  omega
theorem q_low {q : Nat → Nat} {i v w : Nat} (h : ∀ j, j < i → q j < 67108864) : ∀ j, j < i + 1 → upd (upd q (i + 1) v) i (w % 67108864) j < 67108864 := by
  intro j hj
  unfold upd
  split
  · exact Nat.mod_lt _ (by decide)
  · rw [if_neg (by omega)]; exact h j (by omega)
theorem q_high {q : Nat → Nat} {i v w : Nat} (h : ∀ j, i < j → j < 5 → q j < 67108864) : ∀ j, i + 1 < j → j < 5 → upd (upd q (i + 1) v) i w j < 67108864 := by
  intro j hj h5
  unfold upd
  rw [if_neg (by omega), if_neg (by omega)]
  exact h j (by omega) h5
theorem q_here {q : Nat → Nat} {i w : Nat} (hi : i < 4) (h : ∀ j, i < j → j < 5 → q j < 67108864) (h2 : q i < 67108869) : upd (upd q (i + 1) (q (i + 1) + q i / 67108864)) i w (i + 1) < 67108869 := by
  unfold upd
  rw [if_neg (by omega), if_pos rfl]
  have := h (i + 1) (by omega) (by omega)
  omega
theorem q_step {q : Nat → Nat} {i : Nat} (hi : i < 4) : v26 (upd (upd q (i + 1) (q (i + 1) + q i / 67108864)) i (q i % 67108864)) 5 = v26 q 5 := by
  have h : i = 0 ∨ i = 1 ∨ i = 2 ∨ i = 3 := by omega
  rw [v26_five, v26_five]
  rcases h with rfl | rfl | rfl | rfl <;> simp [upd] <;> omega
theorem top5 {q : Nat → Nat} {T : Nat} (hq : v26 q 5 = T + 5) (hl : ∀ j, j < 4 → q j < 67108864) (hT : T < 2 ^ 130) : (0 < q 4 / 2 ^ 26 ↔ QQ ≤ T) ∧ (QQ ≤ T → v26 (upd q 4 (q 4 % 67108864)) 5 = T % QQ) := by
  have h4 := v26_lt q 4 (fun j hj => hl j hj)
  have e : v26 q 5 = v26 q 4 + q 4 * 2 ^ (26 * 4) := rfl
  have e2 := v26_upd q 4 (q 4 % 67108864) 5 (by decide)
  rw [QQ_eq]
  simp only [Nat.reduceMul] at *
  generalize v26 q 4 = A at *
  generalize v26 (upd q 4 (q 4 % 67108864)) 5 = B at *
  generalize q 4 = g at *
  omega
/-- One product more: what is above comes in below. -/
theorem pw5 (n t : Nat) (ht : 5 ≤ t) : n * 5 * 2 ^ (26 * (t - 5)) % QQ = n * 2 ^ (26 * t) % QQ := by
  have e : 2 ^ (26 * t) = 2 ^ 130 * 2 ^ (26 * (t - 5)) := by rw [← Nat.pow_add]; congr 1; omega
  have e2 : (2 : Nat) ^ 130 = 5 + QQ := by rw [QQ_eq]
  rw [e, e2, Nat.add_mul, Nat.mul_add, Nat.mul_assoc, show n * (QQ * 2 ^ (26 * (t - 5))) = QQ * (n * 2 ^ (26 * (t - 5))) by rw [Nat.mul_left_comm], Nat.add_mul_mod_self_left]
theorem tm_step {s d e : Nat → Nat} {i j y n : Nat} (hi : i < 5) (hj : j < 5) (h : v26 s 5 % QQ = (v26 d i * y + d i * v26 e j * 2 ^ (26 * i)) % QQ)
    (hn : n = if 5 ≤ i + j then d i * e j * 5 else d i * e j) :
    v26 (upd s ((i + j) % 5) (s ((i + j) % 5) + n)) 5 % QQ = (v26 d i * y + d i * v26 e (j + 1) * 2 ^ (26 * i)) % QQ := by
  have h1 := v26_upd s ((i + j) % 5) (s ((i + j) % 5) + n) 5 (Nat.mod_lt _ (by decide))
  rw [Nat.add_mul] at h1
  have h2 : v26 (upd s ((i + j) % 5) (s ((i + j) % 5) + n)) 5 = v26 s 5 + n * 2 ^ (26 * ((i + j) % 5)) := by omega
  have h3 : n * 2 ^ (26 * ((i + j) % 5)) % QQ = d i * e j * 2 ^ (26 * (i + j)) % QQ := by
    rw [hn]
    by_cases h5 : 5 ≤ i + j
    · rw [if_pos h5, show (i + j) % 5 = i + j - 5 by omega]
      exact pw5 _ _ h5
    · rw [if_neg h5, show (i + j) % 5 = i + j by omega]
  have h4 : d i * v26 e (j + 1) * 2 ^ (26 * i) = d i * v26 e j * 2 ^ (26 * i) + d i * e j * 2 ^ (26 * (i + j)) := by
    rw [v26_succ, Nat.mul_add, Nat.add_mul, Nat.mul_add 26 i j, Nat.pow_add, ← Nat.mul_assoc (d i) (e j), Nat.mul_assoc (d i * e j), Nat.mul_comm (2 ^ (26 * j))]
  rw [h2, h4, ← Nat.add_assoc, Nat.add_mod, h, h3, ← Nat.add_mod]
theorem tm_row {d e : Nat → Nat} {i y : Nat} (hy : v26 e 5 = y) : v26 d i * y + d i * v26 e 5 * 2 ^ (26 * i) = v26 d (i + 1) * y + d (i + 1) * v26 e 0 * 2 ^ (26 * (i + 1)) := by
  rw [hy, v26_succ, Nat.add_mul, show v26 e 0 = 0 from rfl, Nat.mul_zero, Nat.zero_mul, Nat.add_zero, Nat.mul_assoc, Nat.mul_comm y, ← Nat.mul_assoc]
theorem tm_end {x y : Nat} (hx : x < 2 ^ 130) : v26 (d26 x) 5 * y + d26 x 5 * v26 (d26 y) 0 * 2 ^ (26 * 5) = x * y := by
  rw [v26_d26 x 5, Nat.mod_eq_of_lt hx, show v26 (d26 y) 0 = 0 from rfl, Nat.mul_zero, Nat.zero_mul, Nat.add_zero]
theorem tm_le {x y i j : Nat} : d26 x i * d26 y j ≤ 4503599493152769 := Nat.mul_le_mul (show d26 x i ≤ 67108863 by have := d26_lt x i; omega) (show d26 y j ≤ 67108863 by have := d26_lt y j; omega)
theorem tm_bnd {s : Nat → Nat} {r m n B : Nat} (hr : r < 5) (h : ∀ t, t < 5 → s t ≤ m * B) (hn : n ≤ B) : ∀ t, t < 5 → upd s r (s r + n) t ≤ (m + 1) * B := by
  intro t ht
  have h1 := h t ht
  have h2 := h r hr
  rw [Nat.succ_mul]
  unfold upd
  split <;> omega

end Go.Proofs.YtpmgjnfllnokjaaDoor

/-
  The one-time sum in plain numbers.
-/
namespace Go.Proofs.YtpmgjnfllnokjaaDoor
open Go Go.RowKit

/-- A state of the sum: its key's halves, the sum, what is held, how much. -/
abbrev PV (r p a h : Nat → Nat) (n : Int) : Value := .agg (cells 24 [pI .u64 2 r, pI .u64 2 p, pI .u64 3 a, pI .u8 16 h, pV (.int .i64 n)])
theorem leN_app : ∀ (a b : List Nat), leN (a ++ b) = leN a + 256 ^ a.length * leN b
  | [], b => by simp [leN]
  | x :: a, b => by
    have := leN_app a b
    simp only [List.cons_append, leN, List.length_cons]
    rw [this, Nat.pow_succ, Nat.mul_add, ← Nat.mul_assoc, Nat.mul_comm 256 (256 ^ a.length), Nat.add_assoc]
theorem leN_zeros : ∀ k, leN (List.replicate k 0) = 0
  | 0 => rfl
  | k + 1 => by rw [List.replicate_succ]; simp only [leN]; rw [leN_zeros k]
/-- A block with its one, filled up to 24 bytes. -/
def bl (l : List Nat) (m : Nat) : List Nat := l ++ [1] ++ List.replicate m 0
theorem bl_len (l : List Nat) (m : Nat) : (bl l m).length = l.length + 1 + m := by simp [bl]; omega
theorem bl_succ (l : List Nat) (m : Nat) : bl l m ++ [0] = bl l (m + 1) := by
  unfold bl
  rw [List.append_assoc, List.replicate_succ', List.append_assoc]
theorem bl_leN (l : List Nat) (m : Nat) : leN (bl l m) = leN (l ++ [1]) := by
  unfold bl
  rw [leN_app, leN_zeros, Nat.mul_zero, Nat.add_zero]
theorem bl_lt {l : List Nat} (hb : ∀ b ∈ l, b < 256) (m : Nat) : ∀ b ∈ bl l m, b < 256 := by
  intro b h
  unfold bl at h
  rw [List.mem_append, List.mem_append] at h
  rcases h with (h | h) | h
  · exact hb b h
  · have : b = 1 := by simpa using h
    omega
  · have := List.eq_of_mem_replicate h
    omega
/-- The words of a list of bytes, eight each. -/
def w8 (l : List Nat) (j : Nat) : Nat := leN ((l.drop (8 * j)).take 8)
theorem take_lt {l : List Nat} (hb : ∀ b ∈ l, b < 256) (i k : Nat) : ∀ b ∈ (l.drop i).take k, b < 256 := fun b h => hb b (List.mem_of_mem_drop (List.mem_of_mem_take h))
theorem w8_lt {l : List Nat} (hb : ∀ b ∈ l, b < 256) (j : Nat) : w8 l j < 18446744073709551616 := by
  unfold w8
  have h1 := leN_lt _ (take_lt hb (8 * j) 8)
  have h2 : ((l.drop (8 * j)).take 8).length ≤ 8 := by rw [List.length_take]; omega
  have h3 : 256 ^ ((l.drop (8 * j)).take 8).length ≤ 256 ^ 8 := Nat.pow_le_pow_right (by decide) h2
  omega
theorem w8_all {l : List Nat} (h : l.length = 24) : w3 (w8 l) = leN l := by
  have e1 : l = (l.drop 0).take 8 ++ ((l.drop 8).take 8 ++ (l.drop 16).take 8) := by
    rw [List.drop_zero]
    conv => lhs; rw [← List.take_append_drop 8 l, ← List.take_append_drop 8 (l.drop 8)]
    rw [List.drop_drop, List.take_of_length_le (l := l.drop (8 + 8)) (by simp; omega)]
  have l0 : ((l.drop 0).take 8).length = 8 := by simp; omega
  have l1 : ((l.drop 8).take 8).length = 8 := by simp; omega
  conv => rhs; rw [e1, leN_app, leN_app, l0, l1]
  unfold w3 w8
  simp only [Nat.mul_zero, Nat.mul_one, Nat.reduceMul, Nat.reducePow]
  omega
theorem bl_small {l : List Nat} (hb : ∀ b ∈ l, b < 256) (hl : l.length ≤ 16) : leN (l ++ [1]) < 2 * 2 ^ 128 := by
  have h1 := leN_lt l hb
  have h2 : 256 ^ l.length ≤ 256 ^ 16 := Nat.pow_le_pow_right (by decide) hl
  rw [leN_app]
  simp only [leN]
  omega
theorem w8_top {l : List Nat} (hb : ∀ b ∈ l, b < 256) (hl : l.length ≤ 16) {m : Nat} (hm : (bl l m).length = 24) : w8 (bl l m) 2 < 4 := by
  have h1 := w8_all hm
  have h2 := bl_small hb hl
  rw [bl_leN] at h1
  unfold w3 at h1
  generalize leN (l ++ [1]) = B at *
  omega
theorem add_five (x y : Nat) (hx : x < 2 ^ 130) (hy : y < 2 ^ 130) : v26 (fun j => d26 x j + d26 y j) 5 = x + y := by
  have h1 := x_five hx
  have h2 := x_five hy
  rw [v26_five]
  omega
/-- A block is taken in. -/
def pst (R A : Nat) (l : List Nat) : Nat := (A + leN (l ++ [1])) % QQ * R % QQ
theorem QQ_lt : QQ < 2 ^ 130 := by decide
theorem mod_lt30 (x : Nat) : x % QQ < 2 ^ 130 := Nat.lt_trans (Nat.mod_lt _ QQ_pos) QQ_lt
def k3 (r : Nat → Nat) : Nat := r 0 + r 1 * 2 ^ 64
theorem w3_k3 (r : Nat → Nat) : w3 (upd r 2 0) = k3 r := by
  have h0 : upd r 2 0 0 = r 0 := upd_off (by decide)
  have h1 : upd r 2 0 1 = r 1 := upd_off (by decide)
  have h2 : upd r 2 0 2 = 0 := upd_on
  unfold w3 k3
  rw [h0, h1, h2, Nat.zero_mul, Nat.add_zero]
theorem k3_lt {r : Nat → Nat} (h0 : r 0 < 18446744073709551616) (h1 : r 1 < 18446744073709551616) : k3 r < 2 ^ 130 := by unfold k3; omega


/-- A key's bytes, the first half with bits taken off. -/
def msk (f : Nat → Nat) (j : Nat) : Nat := if j < 16 ∧ j % 4 = 3 then (f j &&& 15) % 256 else if 4 ≤ j ∧ j < 16 ∧ j % 4 = 0 then (f j &&& 252) % 256 else f j
def mk1 (f : Nat → Nat) (i j : Nat) : Nat := if j < 4 * i ∧ j % 4 = 3 then (f j &&& 15) % 256 else f j
def mk2 (f : Nat → Nat) (e j : Nat) : Nat := if j < 16 ∧ j % 4 = 3 then (f j &&& 15) % 256 else if 4 ≤ j ∧ j < 4 * (e + 1) ∧ j % 4 = 0 then (f j &&& 252) % 256 else f j
theorem mk1_next {f s : Nat → Nat} {i : Nat} (h : ∀ j, s j = mk1 f i j) : ∀ j, upd s (4 * i + 3) ((s (4 * i + 3) &&& 15) % 256) j = mk1 f (i + 1) j := by
  intro j
  unfold upd
  split
  · rename_i e
    subst e
    rw [h]
    unfold mk1
    rw [if_neg (by omega), if_pos (by omega)]
  · rename_i e
    rw [h]
    unfold mk1
    by_cases h1 : j < 4 * i ∧ j % 4 = 3
    · rw [if_pos h1, if_pos (by omega)]
    · rw [if_neg h1, if_neg (by omega)]
theorem mk1_mk2 {f : Nat → Nat} (j : Nat) : mk1 f 4 j = mk2 f 0 j := by
  unfold mk1 mk2
  by_cases h1 : j < 16 ∧ j % 4 = 3
  · rw [if_pos (by omega), if_pos h1]
  · rw [if_neg (by omega), if_neg h1, if_neg (by omega)]
theorem mk2_next {f s : Nat → Nat} {e : Nat} (he : e < 3) (h : ∀ j, s j = mk2 f e j) : ∀ j, upd s (4 * (e + 1)) ((s (4 * (e + 1)) &&& 252) % 256) j = mk2 f (e + 1) j := by
  intro j
  unfold upd
  split
  · rename_i e1
    subst e1
    rw [h]
    unfold mk2
    rw [if_neg (by omega), if_neg (by omega), if_neg (by omega), if_pos (by omega)]
  · rename_i e1
    rw [h]
    unfold mk2
    by_cases h1 : j < 16 ∧ j % 4 = 3
    · rw [if_pos h1, if_pos h1]
    · rw [if_neg h1, if_neg h1]
      by_cases h2 : 4 ≤ j ∧ j < 4 * (e + 1) ∧ j % 4 = 0
      · rw [if_pos h2, if_pos (by omega)]
      · rw [if_neg h2, if_neg (by omega)]
theorem msk_lt {f : Nat → Nat} (hf : ∀ j, j < 32 → f j < 256) {j : Nat} (hj : j < 32) : msk f j < 256 := by
  unfold msk
  split
  · exact Nat.mod_lt _ (by decide)
  · split
    · exact Nat.mod_lt _ (by decide)
    · exact hf j hj
def bL (f : Nat → Nat) : List Nat := (List.range 32).map (msk f)
theorem bL_len (f : Nat → Nat) : (bL f).length = 32 := by simp [bL]
theorem bL_lt {f : Nat → Nat} (hf : ∀ j, j < 32 → f j < 256) : ∀ b ∈ bL f, b < 256 := by
  intro b hb
  simp only [bL, List.mem_map, List.mem_range] at hb
  obtain ⟨j, hj, rfl⟩ := hb
  exact msk_lt hf hj
theorem bL_of {f s : Nat → Nat} (h : ∀ j, s j = mk2 f 3 j) : (List.range 32).map s = bL f := List.map_congr_left fun j _ => h j

end Go.Proofs.YtpmgjnfllnokjaaDoor

/-
  A state of the one-time sum that may be; its end.
-/
namespace Go.Proofs.YtpmgjnfllnokjaaDoor
open Go Go.RowKit

def lw (r : Nat → Nat) : List Nat := lowl (r 0) 8 ++ lowl (r 1) 8
theorem lw_len (r : Nat → Nat) : (lw r).length = 16 := by simp [lw, lowl_len]
theorem lw_lt (r : Nat → Nat) : ∀ b ∈ lw r, b < 256 := by
  intro b h
  unfold lw at h
  rw [List.mem_append] at h
  rcases h with h | h
  · exact lowl_lt _ _ b h
  · exact lowl_lt _ _ b h
/-- A key whose first half is r. -/
def kq (r : Nat → Nat) (j : Nat) : Nat := (lw r).getD j 0
theorem getD_lt {l : List Nat} (hl : ∀ b ∈ l, b < 256) (j : Nat) : l.getD j 0 < 256 := by
  rw [List.getD_eq_getElem?_getD]
  cases h : l[j]? with
  | none => simp
  | some v => exact hl v (List.mem_of_getElem? h)
theorem kq_lt (r : Nat → Nat) : ∀ j, j < 32 → kq r j < 256 := fun j _ => getD_lt (lw_lt r) j
theorem kq_copy (r : Nat → Nat) : ∀ j, j < 32 → (if 0 ≤ j ∧ j < 0 + min (lw r).length 32 then (lw r).getD (j - 0) 0 else 0) = kq r j := by
  intro j _
  have h := lw_len r
  unfold kq
  split
  · rfl
  · rw [List.getD_eq_getElem?_getD, List.getElem?_eq_none (by omega)]; rfl
def okcd (r a : Nat → Nat) (n : Int) : Bool := allEq 2 (w8 (bL (kq r))) r && (decide (0 ≤ n) && (decide (n < 16) && (decide (a 2 < 4) && allEq 3 (wd (w3 a % QQ)) a)))
def okh (n : Int) (h : Nat → Nat) (i : Nat) : Bool := (List.range i).all fun j => decide ((j : Int) < n) || decide (h j = 0)
theorem okh_next (n : Int) (h : Nat → Nat) (i : Nat) : okh n h (i + 1) = (okh n h i && (decide ((i : Int) < n) || decide (h i = 0))) := by
  unfold okh
  rw [List.range_succ, List.all_append]
  simp
theorem okcases (r a : Nat → Nat) (n : Int) : (allEq 2 (w8 (bL (kq r))) r = false) ∨ (allEq 2 (w8 (bL (kq r))) r = true ∧ ¬ 0 ≤ n) ∨ (allEq 2 (w8 (bL (kq r))) r = true ∧ 0 ≤ n ∧ ¬ n < 16) ∨ (allEq 2 (w8 (bL (kq r))) r = true ∧ 0 ≤ n ∧ n < 16 ∧ ¬ a 2 < 4)
    ∨ (allEq 2 (w8 (bL (kq r))) r = true ∧ 0 ≤ n ∧ n < 16 ∧ a 2 < 4 ∧ allEq 3 (wd (w3 a % QQ)) a = false) ∨ (allEq 2 (w8 (bL (kq r))) r = true ∧ 0 ≤ n ∧ n < 16 ∧ a 2 < 4 ∧ allEq 3 (wd (w3 a % QQ)) a = true) := by
  cases allEq 2 (w8 (bL (kq r))) r
  · exact .inl rfl
  · by_cases h1 : 0 ≤ n
    · by_cases h2 : n < 16
      · by_cases h3 : a 2 < 4
        · cases allEq 3 (wd (w3 a % QQ)) a
          · exact .inr (.inr (.inr (.inr (.inl ⟨rfl, h1, h2, h3, rfl⟩))))
          · exact .inr (.inr (.inr (.inr (.inr ⟨rfl, h1, h2, h3, rfl⟩))))
        · exact .inr (.inr (.inr (.inl ⟨rfl, h1, h2, h3⟩)))
      · exact .inr (.inr (.inl ⟨rfl, h1, h2⟩))
    · exact .inr (.inl ⟨rfl, h1⟩)
theorem okbase {b c e g f : Bool} (h : b = false ∨ c = false ∨ e = false ∨ g = false ∨ f = false) : false = (b && (c && (e && (g && f)))) := by
  cases b <;> cases c <;> cases e <;> cases g <;> cases f <;> simp at h ⊢
theorem ok_all {r a : Nat → Nat} {n : Int} (h0 : allEq 2 (w8 (bL (kq r))) r = true) (h1 : 0 ≤ n) (h2 : n < 16) (h3 : a 2 < 4) (h4 : allEq 3 (wd (w3 a % QQ)) a = true) : true = okcd r a n := by
  unfold okcd
  rw [h0, h4, decide_eq_true h1, decide_eq_true h2, decide_eq_true h3]
  rfl
theorem self26 {x : Nat} (hx : x < 2 ^ 130) : v26 (d26 x) 5 = x := (v26_d26 x 5).trans (Nat.mod_eq_of_lt hx)
theorem okn_a {c : Bool} {n : Int} {h : Nat → Nat} {i : Nat} (hok : (c && okh n h i) = false) : false = (c && okh n h (i + 1)) := by
  rw [okh_next, ← Bool.and_assoc, hok]; rfl
theorem okn_b {c : Bool} {n : Int} {h : Nat → Nat} {i : Nat} (hok : (c && okh n h i) = true) (hl : (i : Int) < n) : true = (c && okh n h (i + 1)) := by
  rw [okh_next, ← Bool.and_assoc, hok, decide_eq_true hl]; rfl
theorem okn_c {c : Bool} {n : Int} {h : Nat → Nat} {i : Nat} (hok : (c && okh n h i) = true) (hl : ¬ (i : Int) < n) : decide ((h i : Int) = 0) = (c && okh n h (i + 1)) := by
  rw [okh_next, ← Bool.and_assoc, hok, decide_eq_false hl, Bool.true_and, Bool.false_or]
  by_cases e : h i = 0
  · rw [e]; rfl
  · rw [decide_eq_false e, decide_eq_false (by omega)]
theorem okcase2 (c : Bool) (n : Int) (h : Nat → Nat) (i : Nat) : (c && okh n h i) = false ∨ ((c && okh n h i) = true ∧ (i : Int) < n) ∨ ((c && okh n h i) = true ∧ ¬ (i : Int) < n) := by
  cases (c && okh n h i)
  · exact .inl rfl
  · by_cases hl : (i : Int) < n
    · exact .inr (.inl ⟨rfl, hl⟩)
    · exact .inr (.inr ⟨rfl, hl⟩)

end Go.Proofs.YtpmgjnfllnokjaaDoor

/-
  Bytes taken in by the one-time sum, in plain numbers.
-/
namespace Go.Proofs.YtpmgjnfllnokjaaDoor
open Go Go.RowKit

def accs (R A : Nat) (S : List Nat) : Nat → Nat
  | 0 => A
  | k + 1 => pst R (accs R A S k) ((S.drop (16 * k)).take 16)
theorem accs_lt {R A : Nat} {S : List Nat} (hA : A < 2 ^ 130) : ∀ k, accs R A S k < 2 ^ 130
  | 0 => hA
  | _ + 1 => mod_lt30 _
theorem w3_wd {x : Nat} (hx : x < 2 ^ 130) : w3 (wd x) = x := by
  unfold w3 wd
  simp only [Nat.mul_zero, Nat.pow_zero, Nat.div_one, Nat.mul_one, Nat.reduceMul]
  omega
theorem wd2_lt {x : Nat} (hx : x < 2 ^ 130) : wd x 2 < 4 := by
  unfold wd
  simp only [Nat.reduceMul]
  omega
/-- What was held, and what comes. -/
def sS (h : Nat → Nat) (n : Nat) (l : List Nat) : List Nat := (List.range n).map h ++ l
theorem sS_len (h : Nat → Nat) (n : Nat) (l : List Nat) : (sS h n l).length = n + l.length := by simp [sS]
theorem sS_lt {h : Nat → Nat} {n : Nat} {l : List Nat} (hh : ∀ j, j < n → h j < 256) (hl : ∀ b ∈ l, b < 256) : ∀ b ∈ sS h n l, b < 256 := by
  intro b hb
  unfold sS at hb
  rw [List.mem_append] at hb
  rcases hb with hb | hb
  · obtain ⟨j, hj, rfl⟩ := List.mem_map.1 hb
    exact hh j (List.mem_range.1 hj)
  · exact hl b hb
theorem drop_next (S : List Nat) (k : Nat) : ((S.drop (16 * k)).drop 16).take ((S.drop (16 * k)).length - 16) = S.drop (16 * (k + 1)) := by
  rw [List.drop_drop, List.take_of_length_le (by simp; omega), show 16 * k + 16 = 16 * (k + 1) by omega]
theorem held_all (L : List Nat) (h : L.length < 16) : (fun i => if i < min L.length 16 then L.getD i 0 else 0) = fun i => L.getD i 0 := by
  funext i
  by_cases hi : i < min L.length 16
  · rw [if_pos hi]
  · rw [if_neg hi, List.getD_eq_getElem?_getD, List.getElem?_eq_none (by omega)]; rfl

end Go.Proofs.YtpmgjnfllnokjaaDoor

/-
  Sums by BLAKE2s of bytes that come in pieces, in plain numbers.
-/
namespace Go.Proofs.YtpmgjnfllnokjaaDoor
open Go Go.RowKit

/-- How many are held behind so many. -/
def nbl (ln : Nat) : Nat := if ln % 64 = 0 ∧ 0 < ln then 64 else ln % 64
def okB (n ln : Nat) (d : Nat → Nat) : Bool := (List.range 64).all (fun j => decide (j < n) || decide (d j = 0)) && decide (n = nbl ln)
theorem okB_bad {n ln : Nat} {d : Nat → Nat} {i : Nat} (hi : i < 64) (hge : n ≤ i) (hne : d i ≠ 0) : (!okB n ln d) = true := by
  have : okB n ln d = false := by
    unfold okB
    rw [Bool.and_eq_false_iff]
    left
    rw [List.all_eq_false]
    exact ⟨i, List.mem_range.2 hi, by simp [hne]; omega⟩
  rw [this]; rfl
theorem okB_fin {n ln x : Nat} {d : Nat → Nat} (h : ∀ t, t < 64 → n ≤ t → d t = 0) (hx : nbl ln = x) : (!okB n ln d) = decide ((n : Int) ≠ (x : Int)) := by
  have e1 : ((List.range 64).all (fun j => decide (j < n) || decide (d j = 0))) = true := by
    rw [List.all_eq_true]
    intro j hj
    have hj := List.mem_range.1 hj
    by_cases hn : j < n
    · simp [hn]
    · simp [h j hj (by omega)]
  unfold okB
  rw [e1, hx, Bool.true_and]
  by_cases hnx : n = x
  · subst hnx; simp
  · have : ¬ (n : Int) = (x : Int) := by omega
    simp [hnx, this]
theorem okB_open {n ln : Nat} {d : Nat → Nat} (h : okB n ln d = true) : n = nbl ln ∧ n ≤ ln ∧ n ≤ 64 ∧ (ln - n) % 64 = 0 ∧ ∀ j, n ≤ j → j < 64 → d j = 0 := by
  unfold okB at h
  rw [Bool.and_eq_true, List.all_eq_true] at h
  obtain ⟨h1, h2⟩ := h
  have e : n = nbl ln := of_decide_eq_true h2
  have e2 := e
  unfold nbl at e2
  refine ⟨e, ?_, ?_, ?_, fun j hj hj2 => ?_⟩
  · split at e2 <;> omega
  · split at e2 <;> omega
  · split at e2 <;> omega
  · have := h1 j (List.mem_range.2 hj2)
    have hn : ¬ j < n := by omega
    simpa [hn] using this
/-- Blocks of S are squeezed in, behind base bytes. -/
def hacc (h : Nat → Nat) (base : Nat) (S : List Nat) : Nat → Nat → Nat
  | 0 => h
  | k + 1 => sqz (hacc h base S k) ((S.drop (64 * k)).take 64) (base + 64 * (k + 1)) false
def nblk (n : Nat) : Nat := (n - 1) / 64
theorem nblk_of {n k : Nat} (h1 : n - 64 * k ≤ 64) (h2 : k = 0 ∨ 64 * k < n) : k = nblk n := by unfold nblk; omega
theorem drop_next64 (S : List Nat) (k : Nat) : ((S.drop (64 * k)).drop 64).take ((S.drop (64 * k)).length - 64) = S.drop (64 * (k + 1)) := by
  rw [List.drop_drop, List.take_of_length_le (by simp; omega), show 64 * k + 64 = 64 * (k + 1) by omega]
theorem held_all64 (L : List Nat) (h : L.length ≤ 64) : (fun i => if i < min L.length 64 then L.getD i 0 else 0) = fun i => L.getD i 0 := by
  funext i
  by_cases hi : i < min L.length 64
  · rw [if_pos hi]
  · rw [if_neg hi, List.getD_eq_getElem?_getD, List.getElem?_eq_none (by omega)]; rfl
/-! ### The bytes of words -/
def hol (w : Nat → Nat) : Nat → List Nat
  | 0 => []
  | i + 1 => hol w i ++ lowl (w i) 4
theorem hol_len (w : Nat → Nat) : ∀ i, (hol w i).length = 4 * i
  | 0 => rfl
  | i + 1 => by rw [hol, List.length_append, hol_len w i, lowl_len]; omega
theorem hol_lt (w : Nat → Nat) : ∀ i, ∀ b ∈ hol w i, b < 256
  | 0, b, h => by simp [hol] at h
  | i + 1, b, h => by
    rcases List.mem_append.1 h with h | h
    · exact hol_lt w i b h
    · exact lowl_lt _ _ b h
theorem hol_congr {v w : Nat → Nat} : ∀ {n : Nat}, (∀ t, t < n → v t = w t) → hol v n = hol w n
  | 0, _ => rfl
  | n + 1, h => by rw [hol, hol, hol_congr (fun t ht => h t (by omega)), h n (by omega)]
def hsumf (w : Nat → Nat) (j : Nat) : Nat := (hol w 8).getD j 0
theorem hsumf_lt (w : Nat → Nat) (j : Nat) : hsumf w j < 256 := getD_lt (hol_lt w 8) j
/-! ### All bytes -/
def rem64 (m : List Nat) : List Nat := m.drop (64 * nblk m.length)
theorem rem64_len (m : List Nat) : (rem64 m).length = nbl m.length := by
  unfold rem64 nblk nbl
  rw [List.length_drop]
  split <;> omega
theorem rem64_le (m : List Nat) : (rem64 m).length ≤ 64 := by rw [rem64_len]; unfold nbl; split <;> omega
theorem rem64_lt {m : List Nat} (h : ∀ b ∈ m, b < 256) : ∀ b ∈ rem64 m, b < 256 := fun b hb => h b (List.mem_of_mem_drop hb)
def hmsg (m : List Nat) : Nat → Nat := hacc hbeg 0 m (nblk m.length)
def heldB (m : List Nat) (i : Nat) : Nat := (rem64 m).getD i 0
theorem heldB_lt {m : List Nat} (hm : ∀ b ∈ m, b < 256) (j : Nat) : heldB m j < 256 := getD_lt (rem64_lt hm) j
theorem ok_heldB (m : List Nat) : okB (rem64 m).length m.length (heldB m) = true := by
  unfold okB
  rw [Bool.and_eq_true, List.all_eq_true]
  refine ⟨fun j _ => ?_, decide_eq_true (rem64_len m)⟩
  by_cases h : j < (rem64 m).length
  · simp [h]
  · have : heldB m j = 0 := by
      unfold heldB
      rw [List.getD_eq_getElem?_getD, List.getElem?_eq_none (by omega)]; rfl
    simp [this]
theorem sS_heldB (m l : List Nat) : sS (heldB m) (rem64 m).length l = rem64 m ++ l := by
  unfold sS
  congr 1
  apply List.ext_getElem
  · simp
  · intro j h1 h2
    simp only [List.getElem_map, List.getElem_range]
    unfold heldB
    rw [List.getD_eq_getElem?_getD, List.getElem?_eq_getElem h2]; rfl
theorem hacc_pre (h : Nat → Nat) (base : Nat) (m l : List Nat) : ∀ k, 64 * k ≤ m.length → hacc h base (m ++ l) k = hacc h base m k
  | 0, _ => rfl
  | k + 1, hk => by
    rw [hacc, hacc, hacc_pre h base m l k (by omega), List.drop_append_of_le_length (by omega), List.take_append_of_le_length (by simp; omega)]
theorem nblk_le (n : Nat) : 64 * nblk n ≤ n := by unfold nblk; omega
theorem drop_rem64 (m l : List Nat) (k : Nat) : (m ++ l).drop (64 * (nblk m.length + k)) = (rem64 m ++ l).drop (64 * k) := by
  have e : (m ++ l).drop (64 * nblk m.length) = rem64 m ++ l := List.drop_append_of_le_length (nblk_le _)
  rw [← e, List.drop_drop, Nat.mul_add]
theorem hacc_app (m l : List Nat) : ∀ k, hacc hbeg 0 (m ++ l) (nblk m.length + k) = hacc (hmsg m) (64 * nblk m.length) (rem64 m ++ l) k
  | 0 => hacc_pre hbeg 0 m l _ (nblk_le _)
  | k + 1 => by
    show hacc hbeg 0 (m ++ l) (nblk m.length + k + 1) = _
    rw [hacc, hacc, hacc_app m l k, drop_rem64, show 0 + 64 * (nblk m.length + k + 1) = 64 * nblk m.length + 64 * (k + 1) by omega]
theorem base_of (m : List Nat) : m.length - (rem64 m).length = 64 * nblk m.length := by
  have := nblk_le m.length
  rw [show (rem64 m).length = m.length - 64 * nblk m.length by simp [rem64]]
  omega
theorem part64 (m l : List Nat) : nblk m.length + nblk (rem64 m ++ l).length = nblk (m ++ l).length := by
  have e : (rem64 m).length = m.length - 64 * nblk m.length := by simp [rem64]
  rw [List.length_append, List.length_append, e]
  unfold nblk
  omega
theorem hmsg_app (m l : List Nat) : hacc (hmsg m) (64 * nblk m.length) (rem64 m ++ l) (nblk (rem64 m ++ l).length) = hmsg (m ++ l) := by
  rw [← hacc_app, part64 m l]; rfl
theorem rem64_app (m l : List Nat) : (rem64 m ++ l).drop (64 * nblk (rem64 m ++ l).length) = rem64 (m ++ l) := by
  rw [← drop_rem64, part64 m l]; rfl
/-- The sum of bytes; of more than may be, what is answered of nothing known. -/
def bsum (m : List Nat) (j : Nat) : Nat := if m.length ≤ 1073741824 then hsumf (sqz (hmsg m) ((List.range 64).map (heldB m)) m.length true) j else hsumf (sqz (fun _ => 0) ((List.range 64).map fun _ => 0) 0 true) j
theorem bsum_lt (m : List Nat) (j : Nat) : bsum m j < 256 := by unfold bsum; split <;> exact hsumf_lt _ _
/-- What is known when the bytes m were taken in. -/
abbrev cB (m : List Nat) : Array Value := cells 74 [pI .u32 8 (hmsg m), pI .u8 64 (heldB m), pV (.int .i64 ((rem64 m).length : Nat)), pV (.int .i64 (m.length : Nat))]
abbrev stB (m : List Nat) : Value := .agg (cB m)
theorem heldB_nil : heldB [] = fun _ => 0 := by funext i; simp [heldB, rem64]
theorem hmsg_nil : hmsg [] = hbeg := rfl
theorem okB_zero : okB 0 0 (fun _ => 0) = true := by decide
theorem bsum_small {m : List Nat} (h : m.length ≤ 1073741824) : bsum m = hsumf (sqz (hmsg m) ((List.range 64).map (heldB m)) m.length true) := by funext j; unfold bsum; rw [if_pos h]
theorem bsum_great {m : List Nat} (h : ¬ m.length ≤ 1073741824) : bsum m = hsumf (sqz (fun _ => 0) ((List.range 64).map fun _ => 0) 0 true) := by funext j; unfold bsum; rw [if_neg h]

end Go.Proofs.YtpmgjnfllnokjaaDoor

/-
  Walks, written by a program of ours off the loaded functions.
-/
namespace Go.Proofs.YtpmgjnfllnokjaaDoor
open Go Go.RowKit


theorem pls47 (w : World) : (((#[.mk "H" 45 0 false "" "" 0, .mk "Held" 34 8 false "" "" 32, .mk "N" 3 72 false "" "" 96, .mk "Len" 3 73 false "" "" 104] : Array Field).mapM fun f => do pure (f.offset, ← sizeOf f.type) : Sem (Array (Nat × Nat)))).run Tryd.prog w = .ok #[(0, 8), (8, 64), (72, 1), (73, 1)] w := places_run (l := [(0, 8), (8, 64), (72, 1), (73, 1)]) (by kernel_rfl) w
theorem siz3 : (Tryd.prog.info? 3).map (·.size) = some 1 := by kernel_rfl
theorem siz34 : (Tryd.prog.info? 34).map (·.size) = some 64 := by kernel_rfl
theorem siz47 : (Tryd.prog.info? 47).map (·.size) = some 74 := by kernel_rfl
theorem und34 : Tryd.prog.underlying 34 = some (.array 64 5) := by kernel_rfl
theorem und47 : Tryd.prog.underlying 47 = some (.struct #[.mk "H" 45 0 false "" "" 0, .mk "Held" 34 8 false "" "" 32, .mk "N" 3 72 false "" "" 96, .mk "Len" 3 73 false "" "" 104]) := by kernel_rfl
theorem zer47 : (Tryd.prog.info? 47).bind (·.zero) = some (.agg (cells 74 [pI .u32 8 fun _ => 0, pI .u8 64 fun _ => 0, pV (.int .i64 0), pV (.int .i64 0)])) := by kernel_rfl

variable {G : Mem}

set_option maxHeartbeats 2000000 in
theorem hbegun_fn : Fn Tryd.prog ((⟨0, arr .u32 8 ivf, 45⟩ : Blk) :: G) 21 #[] (.agg (cells 74 [pI .u32 8 hbeg, pI .u8 64 (fun _ => 0), pV (.int .i64 0), pV (.int .i64 0)])) := by
  refine fn1 (n := 11) Tryd.func21 rfl rfl (by simp) (argE [] 0) (argE_ok _) ?_
  refine e_seq ?_
  refine e_plain ?_
  refine e_alloc 0 zer47 rfl fun r1 => ?_
  refine e_nil ?_
  refine e_seq ?_
  refine e_plain ?_
  refine e_loadAg (i := 0) und45 rfl siz45 rfl rfl (arr_size _ _ _) rfl ?_
  refine e_buildS (cells 74 [pI .u32 8 ivf, pI .u8 64 (fun _ => 0), pV (.int .i64 0), pV (.int .i64 0)]) zer47 und47 pls47 rfl (by kernel_rfl) rfl ?_
  refine e_alloc 1 zer47 rfl fun r2 => ?_
  refine e_storeA (i := 1) siz47 rfl rfl (arrv_size _ _) (cells_one ⟨fun _ => rfl, fun _ => rfl, fun _ => rfl, fun _ => rfl, trivial⟩) rfl cells_sz (.inl rfl) ?_
  refine e_nil ?_
  refine e_seq ?_
  refine e_plain ?_
  refine e_fld (0) und47 rfl siz45 rfl rfl rfl ?_
  refine e_index0 (j := 0) und45 siz44 rfl rfl (by omega) rfl ?_
  refine e_ldI (i := 1) 0 (0) und44 rfl rfl rfl rfl rfl (by decide) (by decide) rfl ⟨[], trivial⟩ ?_
  refine e_xor_w (q := 16842784) rfl rfl rfl  ?_
  refine e_fld (0) und47 rfl siz45 rfl rfl rfl ?_
  refine e_index0 (j := 0) und45 siz44 rfl rfl (by omega) rfl ?_
  refine e_stI (i := 1) 0 (0) siz44 rfl rfl rfl rfl rfl (by decide) (by decide) (.inl rfl) ?_
  refine e_nil ?_
  refine e_seq ?_
  refine e_plain ?_
  refine e_loadA (i := 1) und47 rfl siz47 rfl rfl (arrv_size _ _) rfl ⟨[], trivial⟩ ?_
  refine e_as (show _ = Value.agg (cells 74 [pI .u32 8 hbeg, pI .u8 64 (fun _ => 0), pV (.int .i64 0), pV (.int .i64 0)]) from rfl) ?_
  refine e_storeA (i := 0) siz47 rfl rfl (arrv_size _ _) (cells_one ⟨fun _ => rfl, fun _ => rfl, fun _ => rfl, fun _ => rfl, trivial⟩) rfl cells_sz (.inl rfl) ?_
  refine e_nil ?_
  refine e_ret ?_
  exact ⟨_, rfl, .cell (i := 0) rfl rfl und47 rfl siz47 (arrv_size _ _)⟩

set_option maxHeartbeats 2000000 in
theorem badHash_0 (h d : Nat → Nat) (n ln : Int) (h0 : n < 0) : Fn Tryd.prog G 25 #[.agg (cells 74 [pI .u32 8 h, pI .u8 64 d, pV (.int .i64 n), pV (.int .i64 ln)])] (.bool true) := by
  refine fn1 (n := 53) Tryd.func25 rfl rfl (by simp) (argE [.agg (cells 74 [pI .u32 8 h, pI .u8 64 d, pV (.int .i64 n), pV (.int .i64 ln)])] 0) (argE_ok _) ?_
  refine e_seq ?_
  refine e_plain ?_
  refine e_box 0 rfl rfl fun r1 => ?_
  refine e_assign rfl rfl ?_
  refine e_nil ?_
  refine e_seq ?_
  refine e_seq ?_
  refine e_plain ?_
  refine e_fld (72) und47 rfl siz3 rfl rfl rfl ?_
  refine e_ldV1 (i := 0) 2 und3 rfl rfl rfl rfl (by decide) rfl ⟨[], trivial⟩ ?_
  refine e_lt rfl rfl rfl ?_
  refine e_as (congrArg Value.bool (decide_eq_true (by omega))) ?_
  refine e_move rfl rfl ?_
  refine e_no rfl rfl (by decide) rfl ?_
  refine e_no rfl rfl (by decide) rfl ?_
  refine e_no rfl rfl (by decide) rfl ?_
  refine e_pickT rfl rfl rfl rfl ?_
  refine e_move rfl rfl ?_
  refine e_no rfl rfl (by decide) rfl ?_
  refine e_no rfl rfl (by decide) rfl ?_
  refine e_no rfl rfl (by decide) rfl ?_
  refine e_pickT rfl rfl rfl rfl ?_
  refine e_move rfl rfl ?_
  refine e_no rfl rfl (by decide) rfl ?_
  refine e_no rfl rfl (by decide) rfl ?_
  refine e_no rfl rfl (by decide) rfl ?_
  refine e_pickT rfl rfl rfl rfl ?_
  refine e_nil ?_
  refine e_cond rfl ?_ ?_
  · intro hc0
    refine e_seq ?_
    refine e_plain ?_
    refine e_assign rfl rfl ?_
    refine e_nil ?_
    refine e_ret ?_
    exact ⟨_, rfl, .tmp rfl⟩
  · intro hc0
    cases hc0

set_option maxHeartbeats 2000000 in
theorem badHash_1 (h d : Nat → Nat) (n ln : Int) (h1 : 64 < n) : Fn Tryd.prog G 25 #[.agg (cells 74 [pI .u32 8 h, pI .u8 64 d, pV (.int .i64 n), pV (.int .i64 ln)])] (.bool true) := by
  refine fn1 (n := 53) Tryd.func25 rfl rfl (by simp) (argE [.agg (cells 74 [pI .u32 8 h, pI .u8 64 d, pV (.int .i64 n), pV (.int .i64 ln)])] 0) (argE_ok _) ?_
  refine e_seq ?_
  refine e_plain ?_
  refine e_box 0 rfl rfl fun r1 => ?_
  refine e_assign rfl rfl ?_
  refine e_nil ?_
  refine e_seq ?_
  refine e_seq ?_
  refine e_plain ?_
  refine e_fld (72) und47 rfl siz3 rfl rfl rfl ?_
  refine e_ldV1 (i := 0) 2 und3 rfl rfl rfl rfl (by decide) rfl ⟨[], trivial⟩ ?_
  refine e_lt rfl rfl rfl ?_
  refine e_as (congrArg Value.bool (decide_eq_false (by omega))) ?_
  refine e_move rfl rfl ?_
  refine e_yes rfl rfl rfl ?_
  refine e_fld (72) und47 rfl siz3 rfl rfl rfl ?_
  refine e_yes rfl rfl rfl ?_
  refine e_ldV1 (i := 0) 2 und3 rfl rfl rfl rfl (by decide) rfl ⟨[], trivial⟩ ?_
  refine e_yes rfl rfl rfl ?_
  refine e_gt rfl rfl rfl ?_
  refine e_as (congrArg Value.bool (decide_eq_true (by omega))) ?_
  refine e_pickF rfl rfl rfl rfl ?_
  refine e_move rfl rfl ?_
  refine e_no rfl rfl (by decide) rfl ?_
  refine e_no rfl rfl (by decide) rfl ?_
  refine e_no rfl rfl (by decide) rfl ?_
  refine e_pickT rfl rfl rfl rfl ?_
  refine e_move rfl rfl ?_
  refine e_no rfl rfl (by decide) rfl ?_
  refine e_no rfl rfl (by decide) rfl ?_
  refine e_no rfl rfl (by decide) rfl ?_
  refine e_pickT rfl rfl rfl rfl ?_
  refine e_nil ?_
  refine e_cond rfl ?_ ?_
  · intro hc0
    refine e_seq ?_
    refine e_plain ?_
    refine e_assign rfl rfl ?_
    refine e_nil ?_
    refine e_ret ?_
    exact ⟨_, rfl, .tmp rfl⟩
  · intro hc0
    cases hc0

set_option maxHeartbeats 2000000 in
theorem badHash_2 (h d : Nat → Nat) (n ln : Int) (h0 : 0 ≤ n) (h1 : n ≤ 64) (h2 : ln < 0) : Fn Tryd.prog G 25 #[.agg (cells 74 [pI .u32 8 h, pI .u8 64 d, pV (.int .i64 n), pV (.int .i64 ln)])] (.bool true) := by
  refine fn1 (n := 53) Tryd.func25 rfl rfl (by simp) (argE [.agg (cells 74 [pI .u32 8 h, pI .u8 64 d, pV (.int .i64 n), pV (.int .i64 ln)])] 0) (argE_ok _) ?_
  refine e_seq ?_
  refine e_plain ?_
  refine e_box 0 rfl rfl fun r1 => ?_
  refine e_assign rfl rfl ?_
  refine e_nil ?_
  refine e_seq ?_
  refine e_seq ?_
  refine e_plain ?_
  refine e_fld (72) und47 rfl siz3 rfl rfl rfl ?_
  refine e_ldV1 (i := 0) 2 und3 rfl rfl rfl rfl (by decide) rfl ⟨[], trivial⟩ ?_
  refine e_lt rfl rfl rfl ?_
  refine e_as (congrArg Value.bool (decide_eq_false (by omega))) ?_
  refine e_move rfl rfl ?_
  refine e_yes rfl rfl rfl ?_
  refine e_fld (72) und47 rfl siz3 rfl rfl rfl ?_
  refine e_yes rfl rfl rfl ?_
  refine e_ldV1 (i := 0) 2 und3 rfl rfl rfl rfl (by decide) rfl ⟨[], trivial⟩ ?_
  refine e_yes rfl rfl rfl ?_
  refine e_gt rfl rfl rfl ?_
  refine e_as (congrArg Value.bool (decide_eq_false (by omega))) ?_
  refine e_pickF rfl rfl rfl rfl ?_
  refine e_move rfl rfl ?_
  refine e_yes rfl rfl rfl ?_
  refine e_fld (73) und47 rfl siz3 rfl rfl rfl ?_
  refine e_yes rfl rfl rfl ?_
  refine e_ldV1 (i := 0) 3 und3 rfl rfl rfl rfl (by decide) rfl ⟨[], trivial⟩ ?_
  refine e_yes rfl rfl rfl ?_
  refine e_lt rfl rfl rfl ?_
  refine e_as (congrArg Value.bool (decide_eq_true (by omega))) ?_
  refine e_pickF rfl rfl rfl rfl ?_
  refine e_move rfl rfl ?_
  refine e_no rfl rfl (by decide) rfl ?_
  refine e_no rfl rfl (by decide) rfl ?_
  refine e_no rfl rfl (by decide) rfl ?_
  refine e_pickT rfl rfl rfl rfl ?_
  refine e_nil ?_
  refine e_cond rfl ?_ ?_
  · intro hc0
    refine e_seq ?_
    refine e_plain ?_
    refine e_assign rfl rfl ?_
    refine e_nil ?_
    refine e_ret ?_
    exact ⟨_, rfl, .tmp rfl⟩
  · intro hc0
    cases hc0

set_option maxHeartbeats 2000000 in
theorem badHash_3 (h d : Nat → Nat) (n ln : Int) (h0 : 0 ≤ n) (h1 : n ≤ 64) (h3 : 1073741824 < ln) : Fn Tryd.prog G 25 #[.agg (cells 74 [pI .u32 8 h, pI .u8 64 d, pV (.int .i64 n), pV (.int .i64 ln)])] (.bool true) := by
  refine fn1 (n := 53) Tryd.func25 rfl rfl (by simp) (argE [.agg (cells 74 [pI .u32 8 h, pI .u8 64 d, pV (.int .i64 n), pV (.int .i64 ln)])] 0) (argE_ok _) ?_
  refine e_seq ?_
  refine e_plain ?_
  refine e_box 0 rfl rfl fun r1 => ?_
  refine e_assign rfl rfl ?_
  refine e_nil ?_
  refine e_seq ?_
  refine e_seq ?_
  refine e_plain ?_
  refine e_fld (72) und47 rfl siz3 rfl rfl rfl ?_
  refine e_ldV1 (i := 0) 2 und3 rfl rfl rfl rfl (by decide) rfl ⟨[], trivial⟩ ?_
  refine e_lt rfl rfl rfl ?_
  refine e_as (congrArg Value.bool (decide_eq_false (by omega))) ?_
  refine e_move rfl rfl ?_
  refine e_yes rfl rfl rfl ?_
  refine e_fld (72) und47 rfl siz3 rfl rfl rfl ?_
  refine e_yes rfl rfl rfl ?_
  refine e_ldV1 (i := 0) 2 und3 rfl rfl rfl rfl (by decide) rfl ⟨[], trivial⟩ ?_
  refine e_yes rfl rfl rfl ?_
  refine e_gt rfl rfl rfl ?_
  refine e_as (congrArg Value.bool (decide_eq_false (by omega))) ?_
  refine e_pickF rfl rfl rfl rfl ?_
  refine e_move rfl rfl ?_
  refine e_yes rfl rfl rfl ?_
  refine e_fld (73) und47 rfl siz3 rfl rfl rfl ?_
  refine e_yes rfl rfl rfl ?_
  refine e_ldV1 (i := 0) 3 und3 rfl rfl rfl rfl (by decide) rfl ⟨[], trivial⟩ ?_
  refine e_yes rfl rfl rfl ?_
  refine e_lt rfl rfl rfl ?_
  refine e_as (congrArg Value.bool (decide_eq_false (by omega))) ?_
  refine e_pickF rfl rfl rfl rfl ?_
  refine e_move rfl rfl ?_
  refine e_yes rfl rfl rfl ?_
  refine e_fld (73) und47 rfl siz3 rfl rfl rfl ?_
  refine e_yes rfl rfl rfl ?_
  refine e_ldV1 (i := 0) 3 und3 rfl rfl rfl rfl (by decide) rfl ⟨[], trivial⟩ ?_
  refine e_yes rfl rfl rfl ?_
  refine e_gt rfl rfl rfl ?_
  refine e_as (congrArg Value.bool (decide_eq_true (by omega))) ?_
  refine e_pickF rfl rfl rfl rfl ?_
  refine e_nil ?_
  refine e_cond rfl ?_ ?_
  · intro hc0
    refine e_seq ?_
    refine e_plain ?_
    refine e_assign rfl rfl ?_
    refine e_nil ?_
    refine e_ret ?_
    exact ⟨_, rfl, .tmp rfl⟩
  · intro hc0
    cases hc0

set_option maxHeartbeats 4000000 in
theorem badHash_ok (h d : Nat → Nat) (n ln : Nat) (hn : n ≤ 64) (hl : ln ≤ 1073741824) : Fn Tryd.prog G 25 #[.agg (cells 74 [pI .u32 8 h, pI .u8 64 d, pV (.int .i64 n), pV (.int .i64 ln)])] (.bool (!okB n ln d)) := by
  refine fn1 (n := 53) Tryd.func25 rfl rfl (by simp) (argE [.agg (cells 74 [pI .u32 8 h, pI .u8 64 d, pV (.int .i64 n), pV (.int .i64 ln)])] 0) (argE_ok _) ?_
  refine e_seq ?_
  refine e_plain ?_
  refine e_box 0 rfl rfl fun r1 => ?_
  refine e_assign rfl rfl ?_
  refine e_nil ?_
  refine e_seq ?_
  refine e_seq ?_
  refine e_plain ?_
  refine e_fld (72) und47 rfl siz3 rfl rfl rfl ?_
  refine e_ldV1 (i := 0) 2 und3 rfl rfl rfl rfl (by decide) rfl ⟨[], trivial⟩ ?_
  refine e_lt rfl rfl rfl ?_
  refine e_as (congrArg Value.bool (decide_eq_false (by omega))) ?_
  refine e_move rfl rfl ?_
  refine e_yes rfl rfl rfl ?_
  refine e_fld (72) und47 rfl siz3 rfl rfl rfl ?_
  refine e_yes rfl rfl rfl ?_
  refine e_ldV1 (i := 0) 2 und3 rfl rfl rfl rfl (by decide) rfl ⟨[], trivial⟩ ?_
  refine e_yes rfl rfl rfl ?_
  refine e_gt rfl rfl rfl ?_
  refine e_as (congrArg Value.bool (decide_eq_false (by omega))) ?_
  refine e_pickF rfl rfl rfl rfl ?_
  refine e_move rfl rfl ?_
  refine e_yes rfl rfl rfl ?_
  refine e_fld (73) und47 rfl siz3 rfl rfl rfl ?_
  refine e_yes rfl rfl rfl ?_
  refine e_ldV1 (i := 0) 3 und3 rfl rfl rfl rfl (by decide) rfl ⟨[], trivial⟩ ?_
  refine e_yes rfl rfl rfl ?_
  refine e_lt rfl rfl rfl ?_
  refine e_as (congrArg Value.bool (decide_eq_false (by omega))) ?_
  refine e_pickF rfl rfl rfl rfl ?_
  refine e_move rfl rfl ?_
  refine e_yes rfl rfl rfl ?_
  refine e_fld (73) und47 rfl siz3 rfl rfl rfl ?_
  refine e_yes rfl rfl rfl ?_
  refine e_ldV1 (i := 0) 3 und3 rfl rfl rfl rfl (by decide) rfl ⟨[], trivial⟩ ?_
  refine e_yes rfl rfl rfl ?_
  refine e_gt rfl rfl rfl ?_
  refine e_as (congrArg Value.bool (decide_eq_false (by omega))) ?_
  refine e_pickF rfl rfl rfl rfl ?_
  refine e_nil ?_
  refine e_cond rfl ?_ ?_
  · intro hc0
    cases hc0
  · intro hc0
    refine e_skip ?_
    refine e_seq ?_
    refine e_plain ?_
    refine e_fld (73) und47 rfl siz3 rfl rfl rfl ?_
    refine e_ldV1 (i := 0) 3 und3 rfl rfl rfl rfl (by decide) rfl ⟨[], trivial⟩ ?_
    refine e_rem_i (q := 64) rfl rfl rfl (by omega) ?_
    refine e_assign rfl rfl ?_
    refine e_nil ?_
    refine e_seq ?_
    refine e_seq ?_
    rcases (by omega : ln % 64 ≠ 0 ∨ (ln % 64 = 0 ∧ 0 < ln) ∨ (ln % 64 = 0 ∧ ¬ 0 < ln)) with hm | ⟨hm, hp⟩ | ⟨hm, hp⟩
    · skip
      refine e_plain ?_
      refine e_move rfl rfl ?_
      refine e_eq rfl rfl rfl ?_
      refine e_as (congrArg Value.bool (decide_eq_false (by omega))) ?_
      refine e_move rfl rfl ?_
      refine e_no rfl rfl (by decide) rfl ?_
      refine e_no rfl rfl (by decide) rfl ?_
      refine e_no rfl rfl (by decide) rfl ?_
      refine e_pickF rfl rfl rfl rfl ?_
      refine e_nil ?_
      refine e_cond rfl ?_ ?_
      · intro hc1
        cases hc1
      · intro hc1
        have hkx : nbl ln = ln % 64 := if_neg (by omega)
        refine e_skip ?_
        refine e_seq ?_
        refine e_seq ?_
        refine e_plain ?_
        refine e_fld (8) und47 rfl siz34 rfl rfl rfl ?_
        refine e_ldC (i := 0) 1 und34 rfl siz34 rfl rfl rfl (by decide) rfl ⟨[], trivial⟩ ?_
        refine e_move rfl rfl ?_
        refine e_nil ?_
        refine e_block ?_
        refine e_loopK [(1, _), (3, _), (35, _)] [(0, _)] (fun kk E m => ∃ (i : Nat), kk = 64 - i ∧ E = [(36, ii i)] ∧ m = [] ∧ (i ≤ 64) ∧ (∀ t, t < i → n ≤ t → d t = 0)) [(36, ii 0)] [] (64 - 0) ⟨rfl, rfl, rfl, rfl, trivial⟩ ⟨rfl, trivial⟩ ⟨0, rfl, rfl, rfl, by omega, fun t ht => absurd ht (Nat.not_lt_zero t)⟩ ?_
        rintro kk E m ⟨i, rfl, rfl, rfl, hf0_0, hf0_1⟩
        simp only [catE, catL]
        refine e_seq ?_
        refine e_plain ?_
        refine e_lt rfl rfl rfl ?_
        refine e_nil ?_
        refine e_seq ?_
        refine e_cond rfl ?_ ?_
        · intro hc2
          have hc2 : i < 64 := by have := of_decide_eq_true hc2; omega
          refine e_skip ?_
          refine e_seq ?_
          refine e_block ?_
          refine e_seq ?_
          refine e_plain ?_
          refine e_move rfl rfl ?_
          refine e_idx und34 und5 siz5 rfl rfl (by omega) rfl ?_
          refine e_assign rfl rfl ?_
          refine e_assign rfl rfl ?_
          refine e_nil ?_
          refine e_seq ?_
          rcases (by omega : ¬ n ≤ i ∨ (n ≤ i ∧ d i = 0) ∨ (n ≤ i ∧ d i ≠ 0)) with hz | ⟨hge, hz⟩ | ⟨hge, hne⟩
          · skip
            refine e_plain ?_
            refine e_move rfl rfl ?_
            refine e_fld (72) und47 rfl siz3 rfl rfl rfl ?_
            refine e_ldV1 (i := 0) 2 und3 rfl rfl rfl rfl (by decide) rfl ⟨[], trivial⟩ ?_
            refine e_ge rfl rfl rfl ?_
            refine e_as (congrArg Value.bool (decide_eq_false (by omega))) ?_
            refine e_move rfl rfl ?_
            refine e_no rfl rfl (by decide) rfl ?_
            refine e_no rfl rfl (by decide) rfl ?_
            refine e_pickF rfl rfl rfl rfl ?_
            refine e_nil ?_
            refine e_cond rfl ?_ ?_
            · intro hc3
              cases hc3
            · intro hc3
              refine e_skip ?_
              refine e_plain ?_
              refine e_add_i (q := 1) rfl rfl rfl (by omega) ?_
              refine e_move rfl rfl ?_
              refine e_nil ?_
              refine ⟨_, [(36, ii (i + 1))], [], ?_, ⟨rfl, rfl, rfl, rfl, trivial⟩, ⟨rfl, trivial⟩, i + 1, rfl, rfl, rfl, by omega, fun t ht hnt => by rcases (by omega : t < i ∨ t = i) with h | rfl; exact hf0_1 t h hnt; first | exact hz | exact absurd hnt (by omega)⟩
              omega
          · skip
            refine e_plain ?_
            refine e_move rfl rfl ?_
            refine e_fld (72) und47 rfl siz3 rfl rfl rfl ?_
            refine e_ldV1 (i := 0) 2 und3 rfl rfl rfl rfl (by decide) rfl ⟨[], trivial⟩ ?_
            refine e_ge rfl rfl rfl ?_
            refine e_as (congrArg Value.bool (decide_eq_true (by omega))) ?_
            refine e_move rfl rfl ?_
            refine e_yes rfl rfl rfl ?_
            refine e_move rfl rfl ?_
            refine e_yes rfl rfl rfl ?_
            refine e_ne rfl rfl rfl ?_
            refine e_as (congrArg Value.bool (decide_eq_false (by omega))) ?_
            refine e_pickT rfl rfl rfl rfl ?_
            refine e_nil ?_
            refine e_cond rfl ?_ ?_
            · intro hc3
              cases hc3
            · intro hc3
              refine e_skip ?_
              refine e_plain ?_
              refine e_add_i (q := 1) rfl rfl rfl (by omega) ?_
              refine e_move rfl rfl ?_
              refine e_nil ?_
              refine ⟨_, [(36, ii (i + 1))], [], ?_, ⟨rfl, rfl, rfl, rfl, trivial⟩, ⟨rfl, trivial⟩, i + 1, rfl, rfl, rfl, by omega, fun t ht hnt => by rcases (by omega : t < i ∨ t = i) with h | rfl; exact hf0_1 t h hnt; first | exact hz | exact absurd hnt (by omega)⟩
              omega
          · skip
            refine e_plain ?_
            refine e_move rfl rfl ?_
            refine e_fld (72) und47 rfl siz3 rfl rfl rfl ?_
            refine e_ldV1 (i := 0) 2 und3 rfl rfl rfl rfl (by decide) rfl ⟨[], trivial⟩ ?_
            refine e_ge rfl rfl rfl ?_
            refine e_as (congrArg Value.bool (decide_eq_true (by omega))) ?_
            refine e_move rfl rfl ?_
            refine e_yes rfl rfl rfl ?_
            refine e_move rfl rfl ?_
            refine e_yes rfl rfl rfl ?_
            refine e_ne rfl rfl rfl ?_
            refine e_as (congrArg Value.bool (decide_eq_true (by omega))) ?_
            refine e_pickT rfl rfl rfl rfl ?_
            refine e_nil ?_
            refine e_cond rfl ?_ ?_
            · intro hc3
              refine e_seq ?_
              refine e_plain ?_
              refine e_assign rfl rfl ?_
              refine e_nil ?_
              refine e_ret ?_
              first | rw [okB_bad (i := i) (by omega) hge hne] | rw [okB_fin hf0_1 hkx]
              exact ⟨_, rfl, .tmp rfl⟩
            · intro hc3
              cases hc3
        · intro hc2
          have hc2 := of_decide_eq_false hc2
          have hz0 : i = 64 := by omega
          subst hz0
          refine e_exit ?_
          refine e_seq ?_
          refine e_plain ?_
          refine e_fld (72) und47 rfl siz3 rfl rfl rfl ?_
          refine e_ldV1 (i := 0) 2 und3 rfl rfl rfl rfl (by decide) rfl ⟨[], trivial⟩ ?_
          refine e_move rfl rfl ?_
          refine e_ne rfl rfl rfl ?_
          refine e_assign rfl rfl ?_
          refine e_nil ?_
          refine e_ret ?_
          first | rw [okB_bad (i := i) (by omega) hge hne] | rw [okB_fin hf0_1 hkx]
          exact ⟨_, rfl, .tmp rfl⟩
    · skip
      refine e_plain ?_
      refine e_move rfl rfl ?_
      refine e_eq rfl rfl rfl ?_
      refine e_as (congrArg Value.bool (decide_eq_true (by omega))) ?_
      refine e_move rfl rfl ?_
      refine e_yes rfl rfl rfl ?_
      refine e_fld (73) und47 rfl siz3 rfl rfl rfl ?_
      refine e_yes rfl rfl rfl ?_
      refine e_ldV1 (i := 0) 3 und3 rfl rfl rfl rfl (by decide) rfl ⟨[], trivial⟩ ?_
      refine e_yes rfl rfl rfl ?_
      refine e_gt rfl rfl rfl ?_
      refine e_as (congrArg Value.bool (decide_eq_true (by omega))) ?_
      refine e_pickT rfl rfl rfl rfl ?_
      refine e_nil ?_
      refine e_cond rfl ?_ ?_
      · intro hc1
        have hkx : nbl ln = 64 := if_pos ⟨hm, hp⟩
        refine e_plain ?_
        refine e_assign rfl rfl ?_
        refine e_nil ?_
        refine e_seq ?_
        refine e_seq ?_
        refine e_plain ?_
        refine e_fld (8) und47 rfl siz34 rfl rfl rfl ?_
        refine e_ldC (i := 0) 1 und34 rfl siz34 rfl rfl rfl (by decide) rfl ⟨[], trivial⟩ ?_
        refine e_move rfl rfl ?_
        refine e_nil ?_
        refine e_block ?_
        refine e_loopK [(1, _), (3, _), (35, _)] [(0, _)] (fun kk E m => ∃ (i : Nat), kk = 64 - i ∧ E = [(36, ii i)] ∧ m = [] ∧ (i ≤ 64) ∧ (∀ t, t < i → n ≤ t → d t = 0)) [(36, ii 0)] [] (64 - 0) ⟨rfl, rfl, rfl, rfl, trivial⟩ ⟨rfl, trivial⟩ ⟨0, rfl, rfl, rfl, by omega, fun t ht => absurd ht (Nat.not_lt_zero t)⟩ ?_
        rintro kk E m ⟨i, rfl, rfl, rfl, hf0_0, hf0_1⟩
        simp only [catE, catL]
        refine e_seq ?_
        refine e_plain ?_
        refine e_lt rfl rfl rfl ?_
        refine e_nil ?_
        refine e_seq ?_
        refine e_cond rfl ?_ ?_
        · intro hc2
          have hc2 : i < 64 := by have := of_decide_eq_true hc2; omega
          refine e_skip ?_
          refine e_seq ?_
          refine e_block ?_
          refine e_seq ?_
          refine e_plain ?_
          refine e_move rfl rfl ?_
          refine e_idx und34 und5 siz5 rfl rfl (by omega) rfl ?_
          refine e_assign rfl rfl ?_
          refine e_assign rfl rfl ?_
          refine e_nil ?_
          refine e_seq ?_
          rcases (by omega : ¬ n ≤ i ∨ (n ≤ i ∧ d i = 0) ∨ (n ≤ i ∧ d i ≠ 0)) with hz | ⟨hge, hz⟩ | ⟨hge, hne⟩
          · skip
            refine e_plain ?_
            refine e_move rfl rfl ?_
            refine e_fld (72) und47 rfl siz3 rfl rfl rfl ?_
            refine e_ldV1 (i := 0) 2 und3 rfl rfl rfl rfl (by decide) rfl ⟨[], trivial⟩ ?_
            refine e_ge rfl rfl rfl ?_
            refine e_as (congrArg Value.bool (decide_eq_false (by omega))) ?_
            refine e_move rfl rfl ?_
            refine e_no rfl rfl (by decide) rfl ?_
            refine e_no rfl rfl (by decide) rfl ?_
            refine e_pickF rfl rfl rfl rfl ?_
            refine e_nil ?_
            refine e_cond rfl ?_ ?_
            · intro hc3
              cases hc3
            · intro hc3
              refine e_skip ?_
              refine e_plain ?_
              refine e_add_i (q := 1) rfl rfl rfl (by omega) ?_
              refine e_move rfl rfl ?_
              refine e_nil ?_
              refine ⟨_, [(36, ii (i + 1))], [], ?_, ⟨rfl, rfl, rfl, rfl, trivial⟩, ⟨rfl, trivial⟩, i + 1, rfl, rfl, rfl, by omega, fun t ht hnt => by rcases (by omega : t < i ∨ t = i) with h | rfl; exact hf0_1 t h hnt; first | exact hz | exact absurd hnt (by omega)⟩
              omega
          · skip
            refine e_plain ?_
            refine e_move rfl rfl ?_
            refine e_fld (72) und47 rfl siz3 rfl rfl rfl ?_
            refine e_ldV1 (i := 0) 2 und3 rfl rfl rfl rfl (by decide) rfl ⟨[], trivial⟩ ?_
            refine e_ge rfl rfl rfl ?_
            refine e_as (congrArg Value.bool (decide_eq_true (by omega))) ?_
            refine e_move rfl rfl ?_
            refine e_yes rfl rfl rfl ?_
            refine e_move rfl rfl ?_
            refine e_yes rfl rfl rfl ?_
            refine e_ne rfl rfl rfl ?_
            refine e_as (congrArg Value.bool (decide_eq_false (by omega))) ?_
            refine e_pickT rfl rfl rfl rfl ?_
            refine e_nil ?_
            refine e_cond rfl ?_ ?_
            · intro hc3
              cases hc3
            · intro hc3
              refine e_skip ?_
              refine e_plain ?_
              refine e_add_i (q := 1) rfl rfl rfl (by omega) ?_
              refine e_move rfl rfl ?_
              refine e_nil ?_
              refine ⟨_, [(36, ii (i + 1))], [], ?_, ⟨rfl, rfl, rfl, rfl, trivial⟩, ⟨rfl, trivial⟩, i + 1, rfl, rfl, rfl, by omega, fun t ht hnt => by rcases (by omega : t < i ∨ t = i) with h | rfl; exact hf0_1 t h hnt; first | exact hz | exact absurd hnt (by omega)⟩
              omega
          · skip
            refine e_plain ?_
            refine e_move rfl rfl ?_
            refine e_fld (72) und47 rfl siz3 rfl rfl rfl ?_
            refine e_ldV1 (i := 0) 2 und3 rfl rfl rfl rfl (by decide) rfl ⟨[], trivial⟩ ?_
            refine e_ge rfl rfl rfl ?_
            refine e_as (congrArg Value.bool (decide_eq_true (by omega))) ?_
            refine e_move rfl rfl ?_
            refine e_yes rfl rfl rfl ?_
            refine e_move rfl rfl ?_
            refine e_yes rfl rfl rfl ?_
            refine e_ne rfl rfl rfl ?_
            refine e_as (congrArg Value.bool (decide_eq_true (by omega))) ?_
            refine e_pickT rfl rfl rfl rfl ?_
            refine e_nil ?_
            refine e_cond rfl ?_ ?_
            · intro hc3
              refine e_seq ?_
              refine e_plain ?_
              refine e_assign rfl rfl ?_
              refine e_nil ?_
              refine e_ret ?_
              first | rw [okB_bad (i := i) (by omega) hge hne] | rw [okB_fin hf0_1 hkx]
              exact ⟨_, rfl, .tmp rfl⟩
            · intro hc3
              cases hc3
        · intro hc2
          have hc2 := of_decide_eq_false hc2
          have hz0 : i = 64 := by omega
          subst hz0
          refine e_exit ?_
          refine e_seq ?_
          refine e_plain ?_
          refine e_fld (72) und47 rfl siz3 rfl rfl rfl ?_
          refine e_ldV1 (i := 0) 2 und3 rfl rfl rfl rfl (by decide) rfl ⟨[], trivial⟩ ?_
          refine e_move rfl rfl ?_
          refine e_ne rfl rfl rfl ?_
          refine e_assign rfl rfl ?_
          refine e_nil ?_
          refine e_ret ?_
          first | rw [okB_bad (i := i) (by omega) hge hne] | rw [okB_fin hf0_1 hkx]
          exact ⟨_, rfl, .tmp rfl⟩
      · intro hc1
        cases hc1
    · skip
      refine e_plain ?_
      refine e_move rfl rfl ?_
      refine e_eq rfl rfl rfl ?_
      refine e_as (congrArg Value.bool (decide_eq_true (by omega))) ?_
      refine e_move rfl rfl ?_
      refine e_yes rfl rfl rfl ?_
      refine e_fld (73) und47 rfl siz3 rfl rfl rfl ?_
      refine e_yes rfl rfl rfl ?_
      refine e_ldV1 (i := 0) 3 und3 rfl rfl rfl rfl (by decide) rfl ⟨[], trivial⟩ ?_
      refine e_yes rfl rfl rfl ?_
      refine e_gt rfl rfl rfl ?_
      refine e_as (congrArg Value.bool (decide_eq_false (by omega))) ?_
      refine e_pickT rfl rfl rfl rfl ?_
      refine e_nil ?_
      refine e_cond rfl ?_ ?_
      · intro hc1
        cases hc1
      · intro hc1
        have hkx : nbl ln = ln % 64 := if_neg (by omega)
        refine e_skip ?_
        refine e_seq ?_
        refine e_seq ?_
        refine e_plain ?_
        refine e_fld (8) und47 rfl siz34 rfl rfl rfl ?_
        refine e_ldC (i := 0) 1 und34 rfl siz34 rfl rfl rfl (by decide) rfl ⟨[], trivial⟩ ?_
        refine e_move rfl rfl ?_
        refine e_nil ?_
        refine e_block ?_
        refine e_loopK [(1, _), (3, _), (35, _)] [(0, _)] (fun kk E m => ∃ (i : Nat), kk = 64 - i ∧ E = [(36, ii i)] ∧ m = [] ∧ (i ≤ 64) ∧ (∀ t, t < i → n ≤ t → d t = 0)) [(36, ii 0)] [] (64 - 0) ⟨rfl, rfl, rfl, rfl, trivial⟩ ⟨rfl, trivial⟩ ⟨0, rfl, rfl, rfl, by omega, fun t ht => absurd ht (Nat.not_lt_zero t)⟩ ?_
        rintro kk E m ⟨i, rfl, rfl, rfl, hf0_0, hf0_1⟩
        simp only [catE, catL]
        refine e_seq ?_
        refine e_plain ?_
        refine e_lt rfl rfl rfl ?_
        refine e_nil ?_
        refine e_seq ?_
        refine e_cond rfl ?_ ?_
        · intro hc2
          have hc2 : i < 64 := by have := of_decide_eq_true hc2; omega
          refine e_skip ?_
          refine e_seq ?_
          refine e_block ?_
          refine e_seq ?_
          refine e_plain ?_
          refine e_move rfl rfl ?_
          refine e_idx und34 und5 siz5 rfl rfl (by omega) rfl ?_
          refine e_assign rfl rfl ?_
          refine e_assign rfl rfl ?_
          refine e_nil ?_
          refine e_seq ?_
          rcases (by omega : ¬ n ≤ i ∨ (n ≤ i ∧ d i = 0) ∨ (n ≤ i ∧ d i ≠ 0)) with hz | ⟨hge, hz⟩ | ⟨hge, hne⟩
          · skip
            refine e_plain ?_
            refine e_move rfl rfl ?_
            refine e_fld (72) und47 rfl siz3 rfl rfl rfl ?_
            refine e_ldV1 (i := 0) 2 und3 rfl rfl rfl rfl (by decide) rfl ⟨[], trivial⟩ ?_
            refine e_ge rfl rfl rfl ?_
            refine e_as (congrArg Value.bool (decide_eq_false (by omega))) ?_
            refine e_move rfl rfl ?_
            refine e_no rfl rfl (by decide) rfl ?_
            refine e_no rfl rfl (by decide) rfl ?_
            refine e_pickF rfl rfl rfl rfl ?_
            refine e_nil ?_
            refine e_cond rfl ?_ ?_
            · intro hc3
              cases hc3
            · intro hc3
              refine e_skip ?_
              refine e_plain ?_
              refine e_add_i (q := 1) rfl rfl rfl (by omega) ?_
              refine e_move rfl rfl ?_
              refine e_nil ?_
              refine ⟨_, [(36, ii (i + 1))], [], ?_, ⟨rfl, rfl, rfl, rfl, trivial⟩, ⟨rfl, trivial⟩, i + 1, rfl, rfl, rfl, by omega, fun t ht hnt => by rcases (by omega : t < i ∨ t = i) with h | rfl; exact hf0_1 t h hnt; first | exact hz | exact absurd hnt (by omega)⟩
              omega
          · skip
            refine e_plain ?_
            refine e_move rfl rfl ?_
            refine e_fld (72) und47 rfl siz3 rfl rfl rfl ?_
            refine e_ldV1 (i := 0) 2 und3 rfl rfl rfl rfl (by decide) rfl ⟨[], trivial⟩ ?_
            refine e_ge rfl rfl rfl ?_
            refine e_as (congrArg Value.bool (decide_eq_true (by omega))) ?_
            refine e_move rfl rfl ?_
            refine e_yes rfl rfl rfl ?_
            refine e_move rfl rfl ?_
            refine e_yes rfl rfl rfl ?_
            refine e_ne rfl rfl rfl ?_
            refine e_as (congrArg Value.bool (decide_eq_false (by omega))) ?_
            refine e_pickT rfl rfl rfl rfl ?_
            refine e_nil ?_
            refine e_cond rfl ?_ ?_
            · intro hc3
              cases hc3
            · intro hc3
              refine e_skip ?_
              refine e_plain ?_
              refine e_add_i (q := 1) rfl rfl rfl (by omega) ?_
              refine e_move rfl rfl ?_
              refine e_nil ?_
              refine ⟨_, [(36, ii (i + 1))], [], ?_, ⟨rfl, rfl, rfl, rfl, trivial⟩, ⟨rfl, trivial⟩, i + 1, rfl, rfl, rfl, by omega, fun t ht hnt => by rcases (by omega : t < i ∨ t = i) with h | rfl; exact hf0_1 t h hnt; first | exact hz | exact absurd hnt (by omega)⟩
              omega
          · skip
            refine e_plain ?_
            refine e_move rfl rfl ?_
            refine e_fld (72) und47 rfl siz3 rfl rfl rfl ?_
            refine e_ldV1 (i := 0) 2 und3 rfl rfl rfl rfl (by decide) rfl ⟨[], trivial⟩ ?_
            refine e_ge rfl rfl rfl ?_
            refine e_as (congrArg Value.bool (decide_eq_true (by omega))) ?_
            refine e_move rfl rfl ?_
            refine e_yes rfl rfl rfl ?_
            refine e_move rfl rfl ?_
            refine e_yes rfl rfl rfl ?_
            refine e_ne rfl rfl rfl ?_
            refine e_as (congrArg Value.bool (decide_eq_true (by omega))) ?_
            refine e_pickT rfl rfl rfl rfl ?_
            refine e_nil ?_
            refine e_cond rfl ?_ ?_
            · intro hc3
              refine e_seq ?_
              refine e_plain ?_
              refine e_assign rfl rfl ?_
              refine e_nil ?_
              refine e_ret ?_
              first | rw [okB_bad (i := i) (by omega) hge hne] | rw [okB_fin hf0_1 hkx]
              exact ⟨_, rfl, .tmp rfl⟩
            · intro hc3
              cases hc3
        · intro hc2
          have hc2 := of_decide_eq_false hc2
          have hz0 : i = 64 := by omega
          subst hz0
          refine e_exit ?_
          refine e_seq ?_
          refine e_plain ?_
          refine e_fld (72) und47 rfl siz3 rfl rfl rfl ?_
          refine e_ldV1 (i := 0) 2 und3 rfl rfl rfl rfl (by decide) rfl ⟨[], trivial⟩ ?_
          refine e_move rfl rfl ?_
          refine e_ne rfl rfl rfl ?_
          refine e_assign rfl rfl ?_
          refine e_nil ?_
          refine e_ret ?_
          first | rw [okB_bad (i := i) (by omega) hge hne] | rw [okB_fin hf0_1 hkx]
          exact ⟨_, rfl, .tmp rfl⟩

end Go.Proofs.YtpmgjnfllnokjaaDoor

/-
  Walks, written by a program of ours off the loaded functions.
-/
namespace Go.Proofs.YtpmgjnfllnokjaaDoor
open Go Go.RowKit


theorem ent25 : enters Tryd.prog 25 = true := by kernel_rfl
theorem ent26 : enters Tryd.prog 26 = true := by kernel_rfl
theorem ent27 : enters Tryd.prog 27 = true := by kernel_rfl
theorem ent28 : enters Tryd.prog 28 = true := by kernel_rfl
theorem sis5 : ((Tryd.prog.info? 5).map (·.size)).isSome = true := by kernel_rfl
theorem siz24 : (Tryd.prog.info? 24).map (·.size) = some 32 := by kernel_rfl
theorem und24 : Tryd.prog.underlying 24 = some (.array 32 5) := by kernel_rfl
theorem zer24 : (Tryd.prog.info? 24).bind (·.zero) = some (.agg (arr .u8 32 fun _ => 0)) := by kernel_rfl
theorem zer34 : (Tryd.prog.info? 34).bind (·.zero) = some (.agg (arr .u8 64 fun _ => 0)) := by kernel_rfl

variable {G : Mem}

set_option maxHeartbeats 2000000 in
theorem hadded_bad (h d : Nat → Nat) (n ln : Int) (v : Value) (hB : Fn Tryd.prog ((⟨0, arr .u32 8 ivf, 45⟩ : Blk) :: G) 25 #[.agg (cells 74 [pI .u32 8 h, pI .u8 64 d, pV (.int .i64 n), pV (.int .i64 ln)])] (.bool true)) : Fn Tryd.prog ((⟨0, arr .u32 8 ivf, 45⟩ : Blk) :: G) 20 #[.agg (cells 74 [pI .u32 8 h, pI .u8 64 d, pV (.int .i64 n), pV (.int .i64 ln)]), v] (.tuple #[.agg (cells 74 [pI .u32 8 (fun _ => 0), pI .u8 64 (fun _ => 0), pV (.int .i64 0), pV (.int .i64 0)]), ii 9]) := by
  refine fn2 (n := 63) Tryd.func20 rfl rfl (by simp) (argE [.agg (cells 74 [pI .u32 8 h, pI .u8 64 d, pV (.int .i64 n), pV (.int .i64 ln)]), v] 0) (argE_ok _) ?_
  refine e_seq ?_
  refine e_plain ?_
  refine e_box 0 rfl rfl fun r1 => ?_
  refine e_alloc 1 zer47 rfl fun r2 => ?_
  refine e_assign rfl rfl ?_
  refine e_nil ?_
  refine e_seq ?_
  refine e_seq ?_
  refine e_plain ?_
  refine e_loadA (i := 0) und47 rfl siz47 rfl rfl (arrv_size _ _) rfl ⟨[], trivial⟩ ?_
  refine e_call rfl ent25 hB rfl rfl ?_
  refine e_nil ?_
  refine e_cond rfl ?_ ?_
  · intro hc0
    refine e_seq ?_
    refine e_plain ?_
    refine e_buildS (cells 74 [pI .u32 8 (fun _ => 0), pI .u8 64 (fun _ => 0), pV (.int .i64 0), pV (.int .i64 0)]) zer47 und47 pls47 rfl (by kernel_rfl) rfl ?_
    refine e_storeA (i := 1) siz47 rfl rfl (arrv_size _ _) (cells_one ⟨fun _ => rfl, fun _ => rfl, fun _ => rfl, fun _ => rfl, trivial⟩) rfl cells_sz (.inl rfl) ?_
    refine e_assign rfl rfl ?_
    refine e_nil ?_
    refine e_ret ?_
    exact ⟨_, _, rfl, .cell (i := 1) rfl rfl und47 rfl siz47 (arrv_size _ _), .tmp rfl⟩
  · intro hc0
    cases hc0

set_option maxHeartbeats 2000000 in
theorem hadded_size (h d : Nat → Nat) (n ln : Nat) (v : Value) (l : List Nat) (hv : Shows ((⟨0, arr .u32 8 ivf, 45⟩ : Blk) :: G) 1 v l.length (l.map by8)) (hn : n ≤ 64) (hl : ln ≤ 1073741824) (hok : okB n ln d = true) (hz : 1073741824 < ln + l.length) (hlm : l.length ≤ 4611686018427387904) : Fn Tryd.prog ((⟨0, arr .u32 8 ivf, 45⟩ : Blk) :: G) 20 #[.agg (cells 74 [pI .u32 8 h, pI .u8 64 d, pV (.int .i64 (n : Int)), pV (.int .i64 (ln : Int))]), v] (.tuple #[.agg (cells 74 [pI .u32 8 (fun _ => 0), pI .u8 64 (fun _ => 0), pV (.int .i64 0), pV (.int .i64 0)]), ii 1]) := by
  refine fn2 (n := 63) Tryd.func20 rfl rfl (by simp) (argE [.agg (cells 74 [pI .u32 8 h, pI .u8 64 d, pV (.int .i64 (n : Int)), pV (.int .i64 (ln : Int))]), v] 0) (argE_ok _) ?_
  refine e_seq ?_
  refine e_plain ?_
  refine e_box 0 rfl rfl fun r1 => ?_
  refine e_alloc 1 zer47 rfl fun r2 => ?_
  refine e_assign rfl rfl ?_
  refine e_nil ?_
  refine e_seq ?_
  refine e_seq ?_
  refine e_plain ?_
  refine e_loadA (i := 0) und47 rfl siz47 rfl rfl (arrv_size _ _) rfl ⟨[], trivial⟩ ?_
  refine e_call rfl ent25 (badHash_ok h d n ln hn hl) rfl rfl ?_
  refine e_as (congrArg Value.bool (show (!okB n ln d) = false by rw [hok]; rfl)) ?_
  refine e_nil ?_
  refine e_cond rfl ?_ ?_
  · intro hc0
    cases hc0
  · intro hc0
    refine e_skip ?_
    refine e_seq ?_
    refine e_seq ?_
    refine e_plain ?_
    refine e_fld (73) und47 rfl siz3 rfl rfl rfl ?_
    refine e_ldV1 (i := 0) 3 und3 rfl rfl rfl rfl (by decide) rfl ⟨[], trivial⟩ ?_
    refine e_move rfl rfl ?_
    refine e_lenV hv und22 rfl rfl rfl ?_
    refine e_add_i rfl rfl rfl (by omega) ?_
    refine e_gt rfl rfl rfl ?_
    refine e_as (congrArg Value.bool (decide_eq_true (by omega))) ?_
    refine e_nil ?_
    refine e_cond rfl ?_ ?_
    · intro hc1
      refine e_seq ?_
      refine e_plain ?_
      refine e_buildS (cells 74 [pI .u32 8 (fun _ => 0), pI .u8 64 (fun _ => 0), pV (.int .i64 0), pV (.int .i64 0)]) zer47 und47 pls47 rfl (by kernel_rfl) rfl ?_
      refine e_storeA (i := 1) siz47 rfl rfl (arrv_size _ _) (cells_one ⟨fun _ => rfl, fun _ => rfl, fun _ => rfl, fun _ => rfl, trivial⟩) rfl cells_sz (.inl rfl) ?_
      refine e_assign rfl rfl ?_
      refine e_nil ?_
      refine e_ret ?_
      exact ⟨_, _, rfl, .cell (i := 1) rfl rfl und47 rfl siz47 (arrv_size _ _), .tmp rfl⟩
    · intro hc1
      cases hc1

set_option maxHeartbeats 4000000 in
theorem hadded_ok (h d : Nat → Nat) (n ln : Nat) (v : Value) (l : List Nat) (hv : Shows ((⟨0, arr .u32 8 ivf, 45⟩ : Blk) :: G) 1 v l.length (l.map by8)) (hlb : ∀ b ∈ l, b < 256) (hd : ∀ j, j < 64 → d j < 256) (hl : ln ≤ 1073741824) (hok : okB n ln d = true) (hz : ln + l.length ≤ 1073741824) : Fn Tryd.prog ((⟨0, arr .u32 8 ivf, 45⟩ : Blk) :: G) 20 #[.agg (cells 74 [pI .u32 8 h, pI .u8 64 d, pV (.int .i64 (n : Int)), pV (.int .i64 (ln : Int))]), v] (.tuple #[.agg (cells 74 [pI .u32 8 (hacc h (ln - n) (sS d n l) (nblk (sS d n l).length)), pI .u8 64 (fun i => ((sS d n l).drop (64 * nblk (sS d n l).length)).getD i 0), pV (.int .i64 (((sS d n l).drop (64 * nblk (sS d n l).length)).length : Nat)), pV (.int .i64 (ln + l.length : Nat))]), ii 0]) := by
  obtain ⟨_, hnl, hn, hmod, _⟩ := okB_open hok
  have hSl := sS_len d n l
  have hSb := sS_lt (n := n) (fun j hj => hd j (by omega)) hlb
  refine fn2 (n := 63) Tryd.func20 rfl rfl (by simp) (argE [.agg (cells 74 [pI .u32 8 h, pI .u8 64 d, pV (.int .i64 (n : Int)), pV (.int .i64 (ln : Int))]), v] 0) (argE_ok _) ?_
  refine e_seq ?_
  refine e_plain ?_
  refine e_box 0 rfl rfl fun r1 => ?_
  refine e_alloc 1 zer47 rfl fun r2 => ?_
  refine e_assign rfl rfl ?_
  refine e_nil ?_
  refine e_seq ?_
  refine e_seq ?_
  refine e_plain ?_
  refine e_loadA (i := 0) und47 rfl siz47 rfl rfl (arrv_size _ _) rfl ⟨[], trivial⟩ ?_
  refine e_call rfl ent25 (badHash_ok h d n ln hn hl) rfl rfl ?_
  refine e_as (congrArg Value.bool (show (!okB n ln d) = false by rw [hok]; rfl)) ?_
  refine e_nil ?_
  refine e_cond rfl ?_ ?_
  · intro hc0
    cases hc0
  · intro hc0
    refine e_skip ?_
    refine e_seq ?_
    refine e_seq ?_
    refine e_plain ?_
    refine e_fld (73) und47 rfl siz3 rfl rfl rfl ?_
    refine e_ldV1 (i := 0) 3 und3 rfl rfl rfl rfl (by decide) rfl ⟨[], trivial⟩ ?_
    refine e_move rfl rfl ?_
    refine e_lenV hv und22 rfl rfl rfl ?_
    refine e_add_i rfl rfl rfl (by omega) ?_
    refine e_gt rfl rfl rfl ?_
    refine e_as (congrArg Value.bool (decide_eq_false (by omega))) ?_
    refine e_nil ?_
    refine e_cond rfl ?_ ?_
    · intro hc1
      cases hc1
    · intro hc1
      refine e_skip ?_
      refine e_seq ?_
      refine e_plain ?_
      refine e_fld (8) und47 rfl siz34 rfl rfl rfl ?_
      refine e_ldC (i := 0) 1 und34 rfl siz34 rfl rfl rfl (by decide) rfl ⟨[], trivial⟩ ?_
      refine e_alloc 2 zer34 rfl fun r3 => ?_
      refine e_storeA (i := 2) siz34 rfl rfl (arr_size _ _ _) arr_one rfl (arr_sz _ _ _ _ _) (.inl rfl) ?_
      refine e_nil ?_
      refine e_seq ?_
      refine e_draw mixed (by kernel_rfl) ?_
      refine e_fld (72) und47 rfl siz3 rfl rfl rfl ?_
      refine e_ldV1 (i := 0) 2 und3 rfl rfl rfl rfl (by decide) rfl ⟨[], trivial⟩ ?_
      refine e_sliceA 0 n und34 siz5 rfl rfl rfl rfl ⟨_, rfl⟩ (by omega) (by omega) (by omega) rfl ?_
      refine e_conv_str (i := 2) und22 und5 und9 rfl rfl (by omega) rfl rfl ⟨[], trivial⟩ ?_
      refine e_as (conv_all d n) ?_
      refine e_move rfl rfl ?_
      refine e_conv_strV hv seenG und22 und5 und9 rfl rfl rfl ?_
      refine e_catS rfl rfl rfl (by simp; omega) ?_
      refine e_as (show _ = sv (sS d n l) from rfl) ?_
      refine e_assign rfl rfl ?_
      refine e_nil ?_
      refine e_seq ?_
      refine e_plain ?_
      refine e_fld (73) und47 rfl siz3 rfl rfl rfl ?_
      refine e_ldV1 (i := 0) 3 und3 rfl rfl rfl rfl (by decide) rfl ⟨[], trivial⟩ ?_
      refine e_fld (72) und47 rfl siz3 rfl rfl rfl ?_
      refine e_ldV1 (i := 0) 2 und3 rfl rfl rfl rfl (by decide) rfl ⟨[], trivial⟩ ?_
      refine e_sub_in rfl rfl rfl (by omega) (by omega) ?_
      refine e_assign rfl rfl ?_
      refine e_nil ?_
      refine e_seq ?_
      refine e_block ?_
      refine e_loopK [(1, _), (2, _), (4, _), (5, _)] [(1, _), (2, _)] (fun kk E m => ∃ (k : Nat), kk = (sS d n l).length - 64 * k ∧ E = [(7, sv ((sS d n l).drop (64 * k))), (8, ii (ln - n + 64 * k))] ∧ m = [(0, some ⟨r1, cells 74 [pI .u32 8 (hacc h (ln - n) (sS d n l) k), pI .u8 64 d, pV (.int .i64 (n : Int)), pV (.int .i64 (ln : Int))], 47⟩)] ∧ (64 * k ≤ (sS d n l).length) ∧ (k = 0 ∨ 64 * k < (sS d n l).length)) [(7, sv ((sS d n l).drop (64 * 0))), (8, ii (ln - n + 64 * 0))] [(0, some ⟨r1, cells 74 [pI .u32 8 (hacc h (ln - n) (sS d n l) 0), pI .u8 64 d, pV (.int .i64 (n : Int)), pV (.int .i64 (ln : Int))], 47⟩)] ((sS d n l).length - 64 * 0) ⟨rfl, rfl, rfl, rfl, rfl, rfl, trivial⟩ ⟨rfl, rfl, rfl, trivial⟩ ⟨0, rfl, rfl, rfl, by omega, .inl rfl⟩ ?_
      rintro kk E m ⟨k, rfl, rfl, rfl, hf0_0, hf0_1⟩
      simp only [catE, catL]
      have hdl : ((sS d n l).drop (64 * k)).length = (sS d n l).length - 64 * k := List.length_drop
      refine e_seq ?_
      refine e_seq ?_
      refine e_plain ?_
      refine e_move rfl rfl ?_
      refine e_lenStr und9 rfl rfl rfl ?_
      refine e_gt rfl rfl rfl ?_
      refine e_nil ?_
      refine e_cond rfl ?_ ?_
      · intro hc2
        have hc2 : 64 < (sS d n l).length - 64 * k := by have := of_decide_eq_true hc2; omega
        refine e_skip ?_
        refine e_block ?_
        refine e_seq ?_
        refine e_plain ?_
        refine e_move rfl rfl ?_
        refine e_add_i (q := 64) rfl rfl rfl (by omega) ?_
        refine e_assign rfl rfl ?_
        refine e_nil ?_
        refine e_seq ?_
        refine e_draw mixed (by kernel_rfl) ?_
        refine e_fld (0) und47 rfl siz45 rfl rfl rfl ?_
        refine e_ldC (i := 0) 0 und45 rfl siz45 rfl rfl rfl (by decide) rfl ⟨[], trivial⟩ ?_
        refine e_move rfl rfl ?_
        refine e_sliceStr 0 64 und9 rfl rfl rfl rfl ⟨_, rfl⟩ (by omega) (by omega) rfl ?_
        refine e_move rfl rfl ?_
        refine e_call rfl ent26 (squeezed_false (hacc h (ln - n) (sS d n l) k) (((sS d n l).drop (64 * k)).take 64) (ln - n + 64 * k + 64) (take_lt hSb _ _) (by rw [List.length_take]; omega)) rfl rfl ?_
        refine e_fld (0) und47 rfl siz45 rfl rfl rfl ?_
        refine e_stC (i := 0) 0 siz45 rfl rfl rfl rfl (by decide) (.inl rfl) ?_
        refine e_nil ?_
        refine e_plain ?_
        refine e_move rfl rfl ?_
        refine e_sliceStr 64 ((sS d n l).drop (64 * k)).length und9 rfl rfl rfl ⟨_, rfl⟩ rfl (by omega) (by omega) rfl ?_
        refine e_as (congrArg sv (drop_next64 _ k)) ?_
        refine e_assign rfl rfl ?_
        refine e_nil ?_
        refine ⟨_, [(7, sv ((sS d n l).drop (64 * (k + 1)))), (8, ii (ln - n + 64 * (k + 1)))], [(0, some ⟨r1, cells 74 [pI .u32 8 (hacc h (ln - n) (sS d n l) (k + 1)), pI .u8 64 d, pV (.int .i64 (n : Int)), pV (.int .i64 (ln : Int))], 47⟩)], ?_, ⟨rfl, rfl, rfl, rfl, rfl, rfl, trivial⟩, ⟨rfl, rfl, rfl, trivial⟩, k + 1, rfl, rfl, rfl, by omega, .inr (by omega)⟩
        omega
      · intro hc2
        have hc2 : ¬ 64 < (sS d n l).length - 64 * k := by have := of_decide_eq_false hc2; omega
        refine e_exit ?_
        refine e_seq ?_
        refine e_plain ?_
        refine e_fld (0) und47 rfl siz45 rfl rfl rfl ?_
        refine e_ldC (i := 0) 0 und45 rfl siz45 rfl rfl rfl (by decide) rfl ⟨[], trivial⟩ ?_
        refine e_move rfl rfl ?_
        refine e_lenStr und9 rfl rfl rfl ?_
        refine e_fld (73) und47 rfl siz3 rfl rfl rfl ?_
        refine e_ldV1 (i := 0) 3 und3 rfl rfl rfl rfl (by decide) rfl ⟨[], trivial⟩ ?_
        refine e_move rfl rfl ?_
        refine e_lenV hv und22 rfl rfl rfl ?_
        refine e_add_i rfl rfl rfl (by omega) ?_
        refine e_buildS (cells 74 [pI .u32 8 (hacc h (ln - n) (sS d n l) k), pI .u8 64 (fun _ => 0), pV (.int .i64 (((sS d n l).drop (64 * k)).length : Nat)), pV (.int .i64 (ln + l.length : Nat))]) zer47 und47 pls47 rfl (by kernel_rfl) rfl ?_
        refine e_alloc 3 zer47 rfl fun r4 => ?_
        refine e_storeA (i := 3) siz47 rfl rfl (arrv_size _ _) (cells_one ⟨fun _ => rfl, fun _ => rfl, fun _ => rfl, fun _ => rfl, trivial⟩) rfl cells_sz (.inl rfl) ?_
        refine e_nil ?_
        refine e_seq ?_
        refine e_plain ?_
        refine e_fld (8) und47 rfl siz34 rfl rfl rfl ?_
        refine e_sliceA 0 64 und34 siz5 rfl rfl rfl rfl rfl (by omega) (by omega) (by omega) rfl ?_
        refine e_move rfl rfl ?_
        refine e_copyC (i := 3) 1 und22 siz5 rfl rfl (fun b hb => hSb b (List.mem_of_mem_drop hb)) rfl rfl (Nat.le_of_ble_eq_true rfl) (by decide) rfl ?_
        refine e_nil ?_
        refine e_seq ?_
        refine e_plain ?_
        refine e_loadA (i := 3) und47 rfl siz47 rfl rfl (arrv_size _ _) rfl ⟨[], trivial⟩ ?_
        refine e_as (Eq.trans (show _ = .agg (cells 74 [pI .u32 8 (hacc h (ln - n) (sS d n l) k), pI .u8 64 (fun i => if i < min ((sS d n l).drop (64 * k)).length 64 then ((sS d n l).drop (64 * k)).getD i 0 else 0), pV (.int .i64 (((sS d n l).drop (64 * k)).length : Nat)), pV (.int .i64 (ln + l.length : Nat))]) from rfl) (by rw [held_all64 _ (by omega), nblk_of (n := (sS d n l).length) (by omega) hf0_1])) ?_
        refine e_storeA (i := 1) siz47 rfl rfl (arrv_size _ _) (cells_one ⟨fun _ => rfl, fun _ => rfl, fun _ => rfl, fun _ => rfl, trivial⟩) rfl cells_sz (.inl rfl) ?_
        refine e_assign rfl rfl ?_
        refine e_nil ?_
        refine e_ret ?_
        exact ⟨_, _, rfl, .cell (i := 1) rfl rfl und47 rfl siz47 (arrv_size _ _), .tmp rfl⟩

set_option maxHeartbeats 400000 in
theorem key_fn (l : List Nat) (hl : ∀ b ∈ l, b < 256) (hn : l.length = 32) : Fn Tryd.prog G 28 #[sv l] (.agg (arr .u8 32 (fun j => l.getD j 0))) := by
  refine fn1 (n := 8) Tryd.func28 rfl rfl (by simp) (argE [sv l] 0) (argE_ok _) ?_
  refine e_seq ?_
  refine e_plain ?_
  refine e_alloc 0 zer24 rfl fun r1 => ?_
  refine e_nil ?_
  refine e_seq ?_
  refine e_plain ?_
  refine e_alloc 1 zer24 rfl fun r2 => ?_
  refine e_nil ?_
  refine e_seq ?_
  refine e_plain ?_
  refine e_sliceA 0 32 und24 siz5 rfl rfl rfl rfl rfl (by omega) (by omega) (by omega) rfl ?_
  refine e_move rfl rfl ?_
  refine e_copyStr (i := 1) und22 siz5 rfl rfl hl rfl (by omega) rfl ?_
  refine e_nil ?_
  refine e_seq ?_
  refine e_plain ?_
  refine e_loadA (i := 1) und24 rfl siz24 rfl rfl (arr_size _ _ _) rfl ⟨[], trivial⟩ ?_
  refine e_as (congrArg Value.agg (arr_congr (fun j hj => if_pos (by omega)))) ?_
  refine e_storeA (i := 0) siz24 rfl rfl (arr_size _ _ _) arr_one rfl (arr_sz _ _ _ _ _) (.inl rfl) ?_
  refine e_nil ?_
  refine e_ret ?_
  exact ⟨_, rfl, .cell (i := 0) rfl rfl und24 rfl siz24 (arr_size _ _ _)⟩

set_option maxHeartbeats 2000000 in
theorem hended_bad (h d : Nat → Nat) (n ln : Int) (hB : Fn Tryd.prog ((⟨0, arr .u32 8 ivf, 45⟩ : Blk) :: G) 25 #[.agg (cells 74 [pI .u32 8 h, pI .u8 64 d, pV (.int .i64 n), pV (.int .i64 ln)])] (.bool true)) : Fn Tryd.prog ((⟨0, arr .u32 8 ivf, 45⟩ : Blk) :: G) 22 #[.agg (cells 74 [pI .u32 8 h, pI .u8 64 d, pV (.int .i64 n), pV (.int .i64 ln)])] (.tuple #[.agg (arr .u8 32 (fun _ => 0)), ii 9]) := by
  refine fn2 (n := 31) Tryd.func22 rfl rfl (by simp) (argE [.agg (cells 74 [pI .u32 8 h, pI .u8 64 d, pV (.int .i64 n), pV (.int .i64 ln)])] 0) (argE_ok _) ?_
  refine e_seq ?_
  refine e_plain ?_
  refine e_box 0 rfl rfl fun r1 => ?_
  refine e_alloc 1 zer24 rfl fun r2 => ?_
  refine e_assign rfl rfl ?_
  refine e_nil ?_
  refine e_seq ?_
  refine e_seq ?_
  refine e_plain ?_
  refine e_loadA (i := 0) und47 rfl siz47 rfl rfl (arrv_size _ _) rfl ⟨[], trivial⟩ ?_
  refine e_call rfl ent25 hB rfl rfl ?_
  refine e_nil ?_
  refine e_cond rfl ?_ ?_
  · intro hc0
    refine e_seq ?_
    refine e_plain ?_
    refine e_build0 zer24 und24 sis5 rfl ?_
    refine e_storeA (i := 1) siz24 rfl rfl (arr_size _ _ _) arr_one rfl (arr_sz _ _ _ _ _) (.inl rfl) ?_
    refine e_assign rfl rfl ?_
    refine e_nil ?_
    refine e_ret ?_
    exact ⟨_, _, rfl, .cell (i := 1) rfl rfl und24 rfl siz24 (arr_size _ _ _), .tmp rfl⟩
  · intro hc0
    cases hc0

set_option maxHeartbeats 4000000 in
theorem hended_ok (h d : Nat → Nat) (n ln : Nat) (hd : ∀ j, j < 64 → d j < 256) (hl : ln ≤ 1073741824) (hok : okB n ln d = true) : Fn Tryd.prog ((⟨0, arr .u32 8 ivf, 45⟩ : Blk) :: G) 22 #[.agg (cells 74 [pI .u32 8 h, pI .u8 64 d, pV (.int .i64 (n : Int)), pV (.int .i64 (ln : Int))])] (.tuple #[.agg (arr .u8 32 (hsumf (sqz h ((List.range 64).map d) ln true))), ii 0]) := by
  obtain ⟨_, _, hn, _, _⟩ := okB_open hok
  obtain ⟨w, hw⟩ : ∃ w, w = (sqz h ((List.range 64).map d) ln true) := ⟨_, rfl⟩
  have hwl : ∀ t, w t < 4294967296 := fun t => by rw [hw]; exact sqz_lt _ _ _ _ _
  refine fn2 (n := 31) Tryd.func22 rfl rfl (by simp) (argE [.agg (cells 74 [pI .u32 8 h, pI .u8 64 d, pV (.int .i64 (n : Int)), pV (.int .i64 (ln : Int))])] 0) (argE_ok _) ?_
  refine e_seq ?_
  refine e_plain ?_
  refine e_box 0 rfl rfl fun r1 => ?_
  refine e_alloc 1 zer24 rfl fun r2 => ?_
  refine e_assign rfl rfl ?_
  refine e_nil ?_
  refine e_seq ?_
  refine e_seq ?_
  refine e_plain ?_
  refine e_loadA (i := 0) und47 rfl siz47 rfl rfl (arrv_size _ _) rfl ⟨[], trivial⟩ ?_
  refine e_call rfl ent25 (badHash_ok h d n ln hn hl) rfl rfl ?_
  refine e_as (congrArg Value.bool (show (!okB n ln d) = false by rw [hok]; rfl)) ?_
  refine e_nil ?_
  refine e_cond rfl ?_ ?_
  · intro hc0
    cases hc0
  · intro hc0
    refine e_skip ?_
    refine e_seq ?_
    refine e_plain ?_
    refine e_fld (8) und47 rfl siz34 rfl rfl rfl ?_
    refine e_ldC (i := 0) 1 und34 rfl siz34 rfl rfl rfl (by decide) rfl ⟨[], trivial⟩ ?_
    refine e_alloc 2 zer34 rfl fun r3 => ?_
    refine e_storeA (i := 2) siz34 rfl rfl (arr_size _ _ _) arr_one rfl (arr_sz _ _ _ _ _) (.inl rfl) ?_
    refine e_nil ?_
    refine e_seq ?_
    refine e_plain ?_
    refine e_assign (v := sv []) rfl rfl ?_
    refine e_nil ?_
    refine e_seq ?_
    refine e_seq ?_
    refine e_draw mixed (by kernel_rfl) ?_
    refine e_fld (0) und47 rfl siz45 rfl rfl rfl ?_
    refine e_ldC (i := 0) 0 und45 rfl siz45 rfl rfl rfl (by decide) rfl ⟨[], trivial⟩ ?_
    refine e_sliceA 0 64 und34 siz5 rfl rfl rfl rfl rfl (by omega) (by omega) (by omega) rfl ?_
    refine e_conv_str (i := 2) und22 und5 und9 rfl rfl (by omega) rfl rfl ⟨[], trivial⟩ ?_
    refine e_as (conv_all d 64) ?_
    refine e_fld (73) und47 rfl siz3 rfl rfl rfl ?_
    refine e_ldV1 (i := 0) 3 und3 rfl rfl rfl rfl (by decide) rfl ⟨[], trivial⟩ ?_
    refine e_call rfl ent26 (squeezed_true h ((List.range 64).map d) ln (range_lt hd) (by simp)) rfl rfl ?_
    refine e_as (congrArg (fun f => Value.agg (arr .u32 8 f)) hw.symm) ?_
    refine e_move rfl rfl ?_
    refine e_nil ?_
    refine e_block ?_
    refine e_loopK [(2, _), (3, _), (19, _)] [(0, _), (1, _), (2, _)] (fun kk E m => ∃ (i : Nat), kk = 8 - i ∧ E = [(5, sv (hol w i)), (20, ii i)] ∧ m = [] ∧ (i ≤ 8)) [(5, sv (hol w 0)), (20, ii 0)] [] (8 - 0) ⟨rfl, rfl, rfl, rfl, rfl, trivial⟩ ⟨rfl, rfl, rfl, trivial⟩ ⟨0, rfl, rfl, rfl, by omega⟩ ?_
    rintro kk E m ⟨i, rfl, rfl, rfl, hf0_0⟩
    simp only [catE, catL]
    have hhl := hol_len w i
    have hwi := hwl i
    refine e_seq ?_
    refine e_plain ?_
    refine e_lt rfl rfl rfl ?_
    refine e_nil ?_
    refine e_seq ?_
    refine e_cond rfl ?_ ?_
    · intro hc1
      have hc1 : i < 8 := by have := of_decide_eq_true hc1; omega
      refine e_skip ?_
      refine e_seq ?_
      refine e_block ?_
      refine e_seq ?_
      refine e_plain ?_
      refine e_idx und45 und44 siz44 rfl rfl (by omega) rfl ?_
      refine e_assign rfl rfl ?_
      refine e_nil ?_
      refine e_plain ?_
      refine e_move rfl rfl ?_
      refine e_move rfl rfl ?_
      refine e_conv_un und44 und61 rfl rfl rfl (by omega) ?_
      refine e_call rfl ent27 (low_fn (w i) 4 (by omega) (by decide)) rfl rfl ?_
      refine e_catS rfl rfl rfl (by rw [lowl_len]; omega) ?_
      refine e_assign rfl rfl ?_
      refine e_nil ?_
      refine e_plain ?_
      refine e_add_i (q := 1) rfl rfl rfl (by omega) ?_
      refine e_move rfl rfl ?_
      refine e_nil ?_
      refine ⟨_, [(5, sv (hol w (i + 1))), (20, ii (i + 1))], [], ?_, ⟨rfl, rfl, rfl, rfl, rfl, trivial⟩, ⟨rfl, rfl, rfl, trivial⟩, i + 1, rfl, rfl, rfl, by omega⟩
      omega
    · intro hc1
      have hc1 := of_decide_eq_false hc1
      have hz0 : i = 8 := by omega
      refine e_exit ?_
      refine e_seq ?_
      refine e_plain ?_
      refine e_move rfl rfl ?_
      refine e_call rfl ent28 (key_fn (hol w i) (hol_lt w i) (by omega)) rfl rfl ?_
      refine e_as (show _ = Value.agg (arr .u8 32 (fun j => (hol w i).getD j 0)) from rfl) ?_
      refine e_storeA (i := 1) siz24 rfl rfl (arr_size _ _ _) arr_one rfl (arr_sz _ _ _ _ _) (.inl rfl) ?_
      refine e_assign rfl rfl ?_
      refine e_nil ?_
      refine e_ret ?_
      rw [show hsumf (sqz h ((List.range 64).map d) ln true) = fun j => (hol w i).getD j 0 by rw [hz0, ← hw]; rfl]
      exact ⟨_, _, rfl, .cell (i := 1) rfl rfl und24 rfl siz24 (arr_size _ _ _), .tmp rfl⟩

end Go.Proofs.YtpmgjnfllnokjaaDoor

/-
  What the laws of chacha ask, in plain numbers: picks, nonces, a stream twice, known answers.
-/
namespace Go.Proofs.YtpmgjnfllnokjaaDoor
open Go Go.RowKit

/-! ### picked -/
def pkn (z : Int) (m : Nat) : Nat := (z % (m : Int)).toNat
theorem pkn_lt (z : Int) {m : Nat} (h : 0 < m) : pkn z m < m := by
  have h1 := Int.emod_lt_of_pos z (show (0 : Int) < m by omega)
  have h2 := Int.emod_nonneg z (show (m : Int) ≠ 0 by omega)
  unfold pkn; omega
theorem pkn_int (z : Int) {m : Nat} (h : 0 < m) : ((pkn z m : Nat) : Int) = z % (m : Int) := by
  have h2 := Int.emod_nonneg z (show (m : Int) ≠ 0 by omega)
  unfold pkn; omega
theorem tmod_bd (z : Int) {m : Nat} (h : 0 < m) : -(m : Int) < z.tmod (m : Int) ∧ z.tmod (m : Int) < m := by
  have h1 := Int.emod_lt_of_pos z (show (0 : Int) < m by omega)
  have h2 := Int.emod_nonneg z (show (m : Int) ≠ 0 by omega)
  rw [Int.tmod_eq_emod]
  split
  · omega
  · rename_i hn
    have : z % (m : Int) ≠ 0 := fun e => hn (.inr (Int.dvd_of_emod_eq_zero e))
    simp only [Int.natAbs_natCast]
    omega
theorem pkn_neg {z : Int} {m : Nat} (hm : 0 < m) (h : z.tmod (m : Int) < 0) : z.tmod (m : Int) + (m : Int) = ((pkn z m : Nat) : Int) := by
  rw [pkn_int z hm]
  have h1 := Int.emod_nonneg z (show (m : Int) ≠ 0 by omega)
  rw [Int.tmod_eq_emod] at h ⊢
  split at h
  · omega
  · rename_i hn
    rw [if_neg hn]
    simp only [Int.natAbs_natCast] at *
    omega
theorem pkn_pos {z : Int} {m : Nat} (hm : 0 < m) (h : ¬ z.tmod (m : Int) < 0) : z.tmod (m : Int) = ((pkn z m : Nat) : Int) := by
  rw [pkn_int z hm]
  have h1 := Int.emod_lt_of_pos z (show (0 : Int) < m by omega)
  rw [Int.tmod_eq_emod] at h ⊢
  split at h
  · rename_i hn; rw [if_pos hn]; simp
  · rename_i hn
    simp only [Int.natAbs_natCast] at h
    omega

/-! ### Nonces of things -/
def nonf (l : List Nat) (a b : Int) (j : Nat) : Nat := if j = 11 then (b % 256).toNat else if j = 10 then (a % 256).toNat else if j < min l.length 12 then l.getD j 0 else 0
theorem nonf_lt {l : List Nat} (hl : ∀ x ∈ l, x < 256) (a b : Int) : ∀ j, j < 12 → nonf l a b j < 256 := fun j _ => by
  unfold nonf
  split
  · omega
  · split
    · omega
    · split
      · rename_i h
        rw [List.getD_eq_getElem?_getD, List.getElem?_eq_getElem (show j < l.length by omega)]
        exact hl _ (List.getElem_mem _)
      · decide
theorem non_end (l : List Nat) (a b : Int) : arr .u8 12 (upd (upd (fun j => if 0 + 0 * 1 ≤ j ∧ j < 0 + 0 * 1 + min l.length (12 - 0) then l.getD (j - (0 + 0 * 1)) 0 else 0) 10 (a % 256).toNat) 11 (b % 256).toNat) = arr .u8 12 (nonf l a b) := arr_congr fun j _ => by
  unfold nonf upd
  split
  · rfl
  · split
    · rfl
    · by_cases h : j < min l.length 12
      · rw [if_pos h]; exact if_pos (by omega)
      · rw [if_neg h]; exact if_neg (by omega)

/-! ### A stream twice; a stream's rest -/
theorem xor_back {a b : Nat} (ha : a < 256) (hb : b < 256) : ((a ^^^ b) % 256 ^^^ b) % 256 = a := by
  have h1 : a ^^^ b < 2 ^ 8 := Nat.xor_lt_two_pow (by omega) (by omega)
  rw [Nat.mod_eq_of_lt (show a ^^^ b < 256 by omega), Nat.xor_assoc, Nat.xor_self, Nat.xor_zero, Nat.mod_eq_of_lt ha]
theorem strl_get (k : Nat → Nat) (c : Nat) (nn : Nat → Nat) (l : List Nat) {t : Nat} (h : t < l.length) : (strl k c nn l 0).getD t 0 = strv k c nn l t := by
  rw [List.getD_eq_getElem?_getD, List.getElem?_eq_getElem (by rw [strl_len]; omega)]
  simp [strl]
theorem str_twice (k : Nat → Nat) (c : Nat) (nn : Nat → Nat) {l : List Nat} (hl : ∀ x ∈ l, x < 256) : strl k c nn (strl k c nn l 0) 0 = l := by
  apply List.ext_getElem
  · simp [strl_len]
  · intro j h1 h2
    have e : (strl k c nn (strl k c nn l 0) 0)[j] = strv k c nn (strl k c nn l 0) j := by simp [strl]
    rw [e]
    unfold strv
    rw [strl_get k c nn l h2]
    unfold strv
    rw [List.getD_eq_getElem?_getD, List.getElem?_eq_getElem h2]
    exact xor_back (hl _ (List.getElem_mem _)) (blkf_lt _ _ _ _)
theorem str_rest (k : Nat → Nat) {c : Nat} (nn : Nat → Nat) (l : List Nat) (hl : l.length ≤ 300) : (strl k c nn l 0).drop (min 64 l.length) = strl k (c + 1) nn (l.drop (min 64 l.length)) 0 := by
  apply List.ext_getElem
  · simp [strl_len]
  · intro j h1 h2
    have hj : j < l.length - min 64 l.length := by simpa [strl_len] using h2
    have hm : min 64 l.length = 64 := by omega
    have e1 : ((strl k c nn l 0).drop (min 64 l.length))[j] = strv k c nn l (64 + j) := by
      rw [List.getElem_drop]
      simp [strl, hm]
    have e2 : (strl k (c + 1) nn (l.drop (min 64 l.length)) 0)[j] = strv k (c + 1) nn (l.drop (min 64 l.length)) j := by simp [strl]
    rw [e1, e2, hm]
    unfold strv
    rw [show (c + (64 + j) / 64 % 4294967296) % 4294967296 = (c + 1 + j / 64 % 4294967296) % 4294967296 by omega, show (64 + j) % 64 = j % 64 by omega]
    congr 2
    simp [List.getD]

theorem strv_first (k : Nat → Nat) {c : Nat} (nn : Nat → Nat) (l : List Nat) {i : Nat} (h : i < l.length) (hi : i < 64) (hc : c < 4294967296) : (l[i] ^^^ blkf k c nn i) % 256 = strv k c nn l i := by
  unfold strv
  rw [List.getD_eq_getElem?_getD, List.getElem?_eq_getElem h, show (c + i / 64 % 4294967296) % 4294967296 = c by omega, show i % 64 = i by omega]
  rfl
theorem cut_rest (k : Nat → Nat) (c : Nat) (nn : Nat → Nat) (l : List Nat) : ((strl k c nn l 0).drop (min 64 l.length)).take (l.length - 0 - min 64 l.length) = (strl k c nn l 0).drop (min 64 l.length) := List.take_of_length_le (by simp [strl_len])
theorem cut_end (l : List Nat) (i : Nat) : (l.drop i).take (l.length - i) = l.drop i := List.take_of_length_le (by simp)
theorem nth_str (k : Nat → Nat) (c : Nat) (nn : Nat → Nat) (l : List Nat) {i : Nat} (h : i < l.length) : ((strl k c nn l 0).map by8)[i]? = some (by8 (strv k c nn l i)) := by
  rw [List.getElem?_map, List.getElem?_eq_getElem (by rw [strl_len]; omega)]
  simp [strl]
theorem nth_by8 {l : List Nat} {i : Nat} (h : i < l.length) : (l.map by8)[i]? = some (by8 l[i]) := by
  rw [List.getElem?_map, List.getElem?_eq_getElem h]; rfl

/-! ### Known answers -/
def itL (l : List Nat) : List Nat := (List.range 16).map (dbl (fun t => l.getD t 0))
theorem rnd_cg {f g : Nat → Nat} (h : ∀ t, t < 16 → f t = g t) : ∀ t, t < 16 → rnd f t = rnd g t := fun t ht => by
  unfold rnd
  rw [h (t % 4) (by omega), h (4 + t % 4) (by omega), h (8 + t % 4) (by omega), h (12 + t % 4) (by omega)]
theorem dbl_cg {f g : Nat → Nat} (h : ∀ t, t < 16 → f t = g t) : ∀ t, t < 16 → dbl f t = dbl g t := fun t ht => by
  unfold dbl shm
  exact rnd_cg (fun t ht => by unfold sh1; exact rnd_cg h _ (by omega)) _ (by omega)
theorem dbls_it {f : Nat → Nat} {k : Nat} {l l' : List Nat} (h : ∀ t, t < 16 → dbls f k t = l.getD t 0) (hl : itL l = l') : ∀ t, t < 16 → dbls f (k + 1) t = l'.getD t 0 := fun t ht => by
  rw [← hl]
  show dbl (dbls f k) t = _
  rw [dbl_cg h t ht]
  simp [itL, List.getD, ht]

def kn0 : List Nat := [1634760805, 857760878, 2036477234, 1797285236, 50462976, 117835012, 185207048, 252579084, 319951120, 387323156, 454695192, 522067228, 1, 150994944, 1241513984, 0]
def kn1 : List Nat := [3444762903, 2242577332, 3007673237, 4184729565, 3300379938, 1546524794, 3378426977, 829194266, 2079840064, 2128467524, 4053908981, 1980909258, 1796036771, 1738032922, 3610767719, 4050880653]
def kn2 : List Nat := [3474617732, 76097516, 1409621978, 3259301672, 2417831744, 2037692444, 932040628, 3444047118, 766489110, 667458774, 3443301024, 2046593479, 279900557, 371296101, 1761044229, 81194530]
def kn3 : List Nat := [60899378, 1722898727, 2641062722, 3092005129, 2803120864, 2694525917, 2782572424, 802757235, 3373034264, 1512055827, 3255697846, 1926065012, 3124090743, 3009475007, 2172137819, 751901466]
def kn4 : List Nat := [2586654089, 186907726, 1085225835, 3471475012, 169607110, 1582928887, 2567226087, 221464344, 3832308564, 3377476137, 83817898, 4170399602, 646435958, 1424380465, 898957253, 725332682]
def kn5 : List Nat := [3308460229, 3392298390, 2122125771, 872735434, 651677555, 1619579769, 3237013949, 3809529273, 2922162395, 1123449970, 1902549706, 2539394845, 2657010216, 2105911795, 538773334, 1677355347]
def kn6 : List Nat := [77796122, 1712808713, 68532913, 1639481506, 919373511, 3213509733, 4152219424, 4228635792, 131152586, 3943426479, 1633260689, 2441417436, 867592301, 2036123249, 3221526898, 2695371742]
def kn7 : List Nat := [2607871263, 2124983313, 568675753, 3392748335, 2477819526, 1783386286, 421603930, 2600675672, 3627619934, 1275519626, 3556632990, 648855869, 2785670485, 740582729, 2501187667, 746879501]
def kn8 : List Nat := [3395061213, 2477062414, 3656441688, 652051165, 2552587256, 1898621439, 664429032, 2534372029, 472224538, 1367390992, 2006722535, 1409777160, 2847363579, 942619874, 2377217405, 3426224139]
def kn9 : List Nat := [3065544166, 2583781704, 2475005973, 1226172108, 3694379298, 2564919203, 1610344700, 4145367947, 683801779, 3300102045, 2212689367, 2099558795, 554142498, 2979260323, 3002373001, 1826512934]
def kn10 : List Nat := [2205644971, 3795375971, 2793071134, 1498463023, 3304247495, 4234328879, 2409634044, 1063176119, 861041090, 4069820915, 3938298108, 2196008637, 3516666548, 2957907678, 2659438795, 1312575650]
theorem kn_s0 : itL kn0 = kn1 := by decide +kernel
theorem kn_s1 : itL kn1 = kn2 := by decide +kernel
theorem kn_s2 : itL kn2 = kn3 := by decide +kernel
theorem kn_s3 : itL kn3 = kn4 := by decide +kernel
theorem kn_s4 : itL kn4 = kn5 := by decide +kernel
theorem kn_s5 : itL kn5 = kn6 := by decide +kernel
theorem kn_s6 : itL kn6 = kn7 := by decide +kernel
theorem kn_s7 : itL kn7 = kn8 := by decide +kernel
theorem kn_s8 : itL kn8 = kn9 := by decide +kernel
theorem kn_s9 : itL kn9 = kn10 := by decide +kernel
def ko0 : List Nat := [1634760805, 857760878, 2036477234, 1797285236, 0, 0, 0, 0, 0, 0, 0, 0, 0, 0, 0, 0]
def ko1 : List Nat := [3831485001, 465051814, 3810167018, 3865553406, 708572787, 2260680856, 1175146506, 4195784838, 1401801230, 205755969, 16389820, 2315813162, 1807715081, 3274707926, 3147798601, 2277908837]
def ko2 : List Nat := [2987265446, 555851331, 2043056534, 2394542343, 683648334, 243939487, 2031723700, 842999353, 1769110809, 317167340, 3515309448, 1613476332, 1612483213, 416233319, 1624313532, 397031114]
def ko3 : List Nat := [42443425, 3537648111, 4075615518, 3280431870, 2457253921, 936163239, 535217241, 3858322967, 3618735395, 2694131698, 320827381, 1865984460, 1547860575, 496143739, 4107449562, 442763396]
def ko4 : List Nat := [3464398809, 2736782107, 1867918925, 914662315, 3272508460, 998218446, 2296453912, 505049583, 1927367832, 1097802169, 1733510303, 425094469, 2739030577, 28346074, 3103619896, 1123945486]
def ko5 : List Nat := [1308838156, 2549006073, 4135762692, 793240496, 1354003995, 3934035184, 3013862787, 3854227624, 1335860601, 1156916115, 2881466214, 1593652346, 2985647285, 85002989, 1444698375, 3558679988]
def ko6 : List Nat := [153779254, 551088281, 2573988431, 1784856811, 3150129412, 343203913, 2777219198, 1595256366, 2046321669, 3236133586, 875096108, 2039282348, 748642874, 426368672, 803736417, 3190166337]
def ko7 : List Nat := [1843350424, 1608384784, 3655185970, 1947739403, 3718507033, 1188705781, 838547146, 1894081315, 1188398960, 3234391270, 3125483095, 3295685470, 2940917475, 3868489986, 646047163, 674516562]
def ko8 : List Nat := [4142613381, 256929999, 2185938132, 4278346116, 1910216669, 1624086861, 2910867510, 2312475086, 2656191475, 382791205, 2196319126, 3503982164, 1805033478, 1199192055, 3527735948, 2991348835]
def ko9 : List Nat := [172609723, 4252221419, 3259208404, 3775952493, 2081980761, 957320013, 170075935, 235214466, 1531487041, 140632055, 1563676091, 399783725, 3319306763, 2649833516, 2961880544, 2236122496]
def ko10 : List Nat := [1282424849, 1562217778, 1812475918, 3181191391, 3088700093, 451775904, 3438229160, 3339548555, 2086224346, 2370328401, 1071654007, 927652024, 4105716586, 480319509, 1773569987, 2254827186]
theorem ko_s0 : itL ko0 = ko1 := by decide +kernel
theorem ko_s1 : itL ko1 = ko2 := by decide +kernel
theorem ko_s2 : itL ko2 = ko3 := by decide +kernel
theorem ko_s3 : itL ko3 = ko4 := by decide +kernel
theorem ko_s4 : itL ko4 = ko5 := by decide +kernel
theorem ko_s5 : itL ko5 = ko6 := by decide +kernel
theorem ko_s6 : itL ko6 = ko7 := by decide +kernel
theorem ko_s7 : itL ko7 = ko8 := by decide +kernel
theorem ko_s8 : itL ko8 = ko9 := by decide +kernel
theorem ko_s9 : itL ko9 = ko10 := by decide +kernel
theorem kn_all (f : Nat → Nat) (h : ∀ t, t < 16 → f t = kn0.getD t 0) : ∀ t, t < 16 → dbls f 10 t = kn10.getD t 0 :=
  (dbls_it (dbls_it (dbls_it (dbls_it (dbls_it (dbls_it (dbls_it (dbls_it (dbls_it (dbls_it h kn_s0) kn_s1) kn_s2) kn_s3) kn_s4) kn_s5) kn_s6) kn_s7) kn_s8) kn_s9)
theorem ko_all (f : Nat → Nat) (h : ∀ t, t < 16 → f t = ko0.getD t 0) : ∀ t, t < 16 → dbls f 10 t = ko10.getD t 0 :=
  (dbls_it (dbls_it (dbls_it (dbls_it (dbls_it (dbls_it (dbls_it (dbls_it (dbls_it (dbls_it h ko_s0) ko_s1) ko_s2) ko_s3) ko_s4) ko_s5) ko_s6) ko_s7) ko_s8) ko_s9)
theorem outl_cg {v w v' w' : Nat → Nat} : ∀ i, i ≤ 16 → (∀ t, t < 16 → v t = v' t) → (∀ t, t < 16 → w t = w' t) → outl v w i = outl v' w' i
  | 0, _, _, _ => rfl
  | i + 1, h, h1, h2 => by
    unfold outl
    rw [outl_cg i (by omega) h1 h2, h1 i (by omega), h2 i (by omega)]
abbrev knk : Nat → Nat := fun j => j
abbrev knn : Nat → Nat := upd (upd (fun _ => 0) 3 9) 7 74
theorem kn_start : ∀ t, t < 16 → wrd (allb knk 1 knn) t = kn0.getD t 0 := by decide +kernel
theorem ko_start : ∀ t, t < 16 → wrd (allb (fun _ => 0) 0 (fun _ => 0)) t = ko0.getD t 0 := by decide +kernel
theorem kn_blk : blkl knk 1 knn = outl (fun t => kn10.getD t 0) (fun t => kn0.getD t 0) 16 := outl_cg 16 (by decide) (kn_all _ kn_start) kn_start
theorem ko_blk : blkl (fun _ => 0) 0 (fun _ => 0) = outl (fun t => ko10.getD t 0) (fun t => ko0.getD t 0) 16 := outl_cg 16 (by decide) (ko_all _ ko_start) ko_start
abbrev knA : List Nat := [16, 241, 231, 228, 209, 59, 89, 21]
theorem kn_out : ∀ i, i < 8 → blkf knk 1 knn i = knA.getD i 0 := by
  unfold blkf; rw [kn_blk]; decide +kernel
theorem ko_out : blkf (fun _ => 0) 0 (fun _ => 0) 0 = 118 := by
  unfold blkf; rw [ko_blk]; decide +kernel

/-! ### Slices of bytes -/
theorem Shows.cut {B : Mem} {v : Value} {l l' : List Nat} {i j : Nat} (h : Shows B 1 v l.length (l.map by8)) (h1 : i ≤ j) (h2 : j ≤ l.length) (hl : (l.drop i).take (j - i) = l') : Shows B 1 (slPart 1 v i j) l'.length (l'.map by8) := by
  have := h.part h1 h2
  rw [Nat.mul_one, Nat.mul_one, ← List.map_drop, ← List.map_take, hl] at this
  have e : j - i = l'.length := by rw [← hl]; simp; omega
  rw [e] at this
  exact this
theorem own_bytes {e : TypeId} {v : Value} {l : List Nat} {n : Nat} {m : Mem} (h : OwnS e 1 v n (l.map by8) m) : Shows m 1 v l.length (l.map by8) := by
  have h1 := h.len
  rw [List.length_map, Nat.mul_one] at h1
  rw [h1]; exact h.shows
def zrs (n : Nat) : List Nat := (List.range n).map fun _ => 0
theorem zrs_len (n : Nat) : (zrs n).length = n := by simp [zrs]
theorem zrs_lt (n : Nat) : ∀ x ∈ zrs n, x < 256 := fun x hx => by
  obtain ⟨_, _, rfl⟩ := List.mem_map.1 hx; decide
theorem made_shows (r n : Nat) (e : TypeId) : Shows [⟨r, arr .u8 n (fun _ => 0), e⟩] 1 (.slice (some ⟨r, 0, none⟩) n n) (zrs n).length ((zrs n).map by8) := by
  rw [zrs_len]
  have := shows_new (z := 1) (len := n) (r := r) (arr .u8 n (fun _ => 0)) e (by rw [arr_size, Nat.mul_one])
  have e2 : (arr .u8 n (fun _ => 0)).toList = (zrs n).map by8 := by
    unfold arr zrs
    rw [List.map_map]
    rfl
  rw [e2] at this
  exact this
theorem take_min (l : List Nat) : (l.drop 0).take (min l.length 300 - 0) = l.take 300 := by
  rw [List.drop_zero, Nat.sub_zero]
  by_cases h : l.length ≤ 300
  · rw [Nat.min_eq_left h, List.take_length, List.take_of_length_le h]
  · rw [Nat.min_eq_right (by omega)]

end Go.Proofs.YtpmgjnfllnokjaaDoor
