/-
  Plain arithmetic of the one-time sum: words to digits of 26 bits and back, carries, products by 2^130 - 5.
-/
import Derived.Test.YtmnmhmpklknleaaNum7
namespace Go.Proofs.Ytmnmhmpklknleaa

theorem m26 (x : Nat) : (x &&& 67108863) % 18446744073709551616 = x % 67108864 := by
  have h := Nat.and_two_pow_sub_one_eq_mod x 26
  rw [show (2 : Nat) ^ 26 - 1 = 67108863 by decide] at h
  rw [h]
  have : x % 2 ^ 26 < 2 ^ 26 := Nat.mod_lt _ (by decide)
  rw [Nat.mod_eq_of_lt (by omega)]
theorem orW (a b k : Nat) (hk : k ≤ 64) (ha : a < 2 ^ k) : (a ||| b * 2 ^ k % 18446744073709551616) % 18446744073709551616 = (a + b * 2 ^ k) % 18446744073709551616 := by
  have e64 : (18446744073709551616 : Nat) = 2 ^ (64 - k) * 2 ^ k := by rw [← Nat.pow_add, Nat.sub_add_cancel hk]
  have hb : b * 2 ^ k % 18446744073709551616 = b % 2 ^ (64 - k) * 2 ^ k := by rw [e64, Nat.mul_mod_mul_right]
  have ho : a ||| b % 2 ^ (64 - k) * 2 ^ k = a + b % 2 ^ (64 - k) * 2 ^ k := by
    rw [Nat.or_comm, Nat.mul_comm, ← Nat.two_pow_add_eq_or_of_lt ha, Nat.add_comm]
  rw [hb, ho, ← hb, Nat.add_mod_mod]

def w3 (f : Nat → Nat) : Nat := f 0 + f 1 * 2 ^ 64 + f 2 * 2 ^ 128
section
variable {f : Nat → Nat}
theorem w3_lt (h0 : f 0 < 18446744073709551616) (h1 : f 1 < 18446744073709551616) (h2 : f 2 < 4) : w3 f < 2 ^ 130 := by unfold w3; omega
theorem po0 : (f 0 &&& 67108863) % 18446744073709551616 = d26 (w3 f) 0 := by
  rw [m26]; unfold d26 w3; simp only [Nat.mul_zero, Nat.pow_zero, Nat.div_one]; omega
theorem po1 : (f 0 / 2 ^ 26 &&& 67108863) % 18446744073709551616 = d26 (w3 f) 1 := by
  rw [m26]; unfold d26 w3; simp only [Nat.reduceMul]; omega
theorem po2 (h0 : f 0 < 18446744073709551616) : ((f 0 / 2 ^ 52 ||| f 1 * 2 ^ 12 % 18446744073709551616) % 18446744073709551616 &&& 67108863) % 18446744073709551616 = d26 (w3 f) 2 := by
  rw [m26, orW _ _ 12 (by decide) (by omega)]; unfold d26 w3; simp only [Nat.reduceMul]; omega
theorem po3 (h0 : f 0 < 18446744073709551616) : (f 1 / 2 ^ 14 &&& 67108863) % 18446744073709551616 = d26 (w3 f) 3 := by
  rw [m26]; unfold d26 w3; simp only [Nat.reduceMul]; omega
theorem po4 (h0 : f 0 < 18446744073709551616) (h1 : f 1 < 18446744073709551616) (h2 : f 2 < 4) : (f 1 / 2 ^ 40 ||| f 2 * 2 ^ 24 % 18446744073709551616) % 18446744073709551616 = d26 (w3 f) 4 := by
  rw [orW _ _ 24 (by decide) (by omega)]; unfold d26 w3; simp only [Nat.reduceMul]; omega
end
section
variable {x : Nat} (hx : x < 2 ^ 130)
include hx
theorem x_five : x = d26 x 0 + d26 x 1 * 67108864 + d26 x 2 * 4503599627370496 + d26 x 3 * 302231454903657293676544 + d26 x 4 * 20282409603651670423947251286016 := by
  have h := v26_d26 x 5
  rw [v26_five] at h
  rw [h]
  exact (Nat.mod_eq_of_lt hx).symm
theorem wh0 : ((d26 x 0 ||| d26 x 1 * 2 ^ 26 % 18446744073709551616) % 18446744073709551616 ||| d26 x 2 * 2 ^ 52 % 18446744073709551616) % 18446744073709551616 = wd x 0 := by
  have e := x_five hx
  have l0 := d26_lt x 0
  have l1 := d26_lt x 1
  have l2 := d26_lt x 2
  have l3 := d26_lt x 3
  rw [orW _ _ 26 (by decide) (by omega), orW _ _ 52 (by decide) (by omega)]
  unfold wd
  generalize d26 x 0 = a at *
  generalize d26 x 1 = b at *
  generalize d26 x 2 = c at *
  generalize d26 x 3 = d at *
  generalize d26 x 4 = g at *
  simp only [Nat.mul_zero, Nat.pow_zero, Nat.div_one]
  omega
theorem wh1 : ((d26 x 2 / 2 ^ 12 ||| d26 x 3 * 2 ^ 14 % 18446744073709551616) % 18446744073709551616 ||| d26 x 4 * 2 ^ 40 % 18446744073709551616) % 18446744073709551616 = wd x 1 := by
  have e := x_five hx
  have l0 := d26_lt x 0
  have l1 := d26_lt x 1
  have l2 := d26_lt x 2
  have l3 := d26_lt x 3
  rw [orW _ _ 14 (by decide) (by omega), orW _ _ 40 (by decide) (by omega)]
  unfold wd
  generalize d26 x 0 = a at *
  generalize d26 x 1 = b at *
  generalize d26 x 2 = c at *
  generalize d26 x 3 = d at *
  generalize d26 x 4 = g at *
  simp only [Nat.reduceMul]
  omega
theorem wh2 : d26 x 4 / 2 ^ 24 = wd x 2 := by
  have e := x_five hx
  have l0 := d26_lt x 0
  have l1 := d26_lt x 1
  have l2 := d26_lt x 2
  have l3 := d26_lt x 3
  have l4 := d26_lt x 4
  unfold wd
  generalize d26 x 0 = a at *
  generalize d26 x 1 = b at *
  generalize d26 x 2 = c at *
  generalize d26 x 3 = d at *
  generalize d26 x 4 = g at *
  simp only [Nat.reduceMul]
  omega
end
/-- After one round of carries. -/
theorem rnd_end5 {s s2 : Nat → Nat} {c : Nat} (h : v26 s2 5 + c * 2 ^ (26 * 5) = v26 s 5) (hl : ∀ j, j < 5 → s2 j < 67108864) : v26 s2 5 = v26 s 5 % 2 ^ 130 ∧ c = v26 s 5 / 2 ^ 130 := by
  have h1 := v26_lt s2 5 hl
  simp only [Nat.reduceMul] at h h1
  generalize v26 s2 5 = A at *
  generalize v26 s 5 = B at *
  omega
theorem rnd_next5 {s s2 : Nat → Nat} {c : Nat} (h : v26 s2 5 + c * 2 ^ (26 * 5) = v26 s 5) (hl : ∀ j, j < 5 → s2 j < 67108864) : v26 (upd s2 0 (s2 0 + 5 * c)) 5 = v26 s 5 % 2 ^ 130 + 5 * (v26 s 5 / 2 ^ 130) := by
  obtain ⟨h1, h2⟩ := rnd_end5 h hl
  have h3 := v26_upd s2 0 (s2 0 + 5 * c) 5 (by decide)
  rw [Nat.mul_zero, Nat.pow_zero, Nat.mul_one, Nat.mul_one] at h3
  rw [← h1, ← h2]
  omega
theorem rnd_last {s s2 : Nat → Nat} {c k : Nat} (h : v26 s2 5 + c * 2 ^ (26 * 5) = v26 s 5) (hl : ∀ j, j < 5 → s2 j < 67108864) (hb : v26 s 5 < bnd5 k) : k + 1 = 3 → ∀ j, j < 5 → upd s2 0 (s2 0 + 5 * c) j < 67108864 := by
  intro hk j hj
  have hk2 : k = 2 := by omega
  subst hk2
  have h1 := (rnd_end5 h hl).2
  have h2 : c = 0 := by rw [h1]; exact Nat.div_eq_of_lt hb
  subst h2
  unfold upd
  split
  · exact hl 0 (by decide)
  · exact hl j hj
theorem rnd_small {s2 : Nat → Nat} {c : Nat} (hl : ∀ j, j < 5 → s2 j < 67108864) (hc : c < 34359738368) : ∀ j, j < 5 → upd s2 0 (s2 0 + 5 * c) j < 1152921504606846976 := by
  intro j hj
  have h1 := hl j hj
  have h2 := hl 0 (by decide)
  unfold upd
  split <;> omega
theorem upd_off {f : Nat → Nat} {j v t : Nat} (h : t ≠ j) : upd f j v t = f t := by unfold upd; rw [if_neg h]
theorem upd_on {f : Nat → Nat} {j v : Nat} : upd f j v j = v := by unfold upd; rw [if_pos rfl]
theorem mod_below {s : Nat → Nat} {k v : Nat} (h : ∀ j, j < k → s j < 67108864) : ∀ j, j < k + 1 → upd s k (v % 67108864) j < 67108864 := by
  intro j hj
  unfold upd
  split
  · exact Nat.mod_lt _ (by decide)
  · exact h j (by omega)
theorem q_start {s : Nat → Nat} : v26 (upd s 0 (s 0 + 5)) 5 = v26 s 5 + 5 := by
  have h := v26_upd s 0 (s 0 + 5) 5 (by decide)
  rw [Nat.mul_zero, Nat.pow_zero, Nat.mul_one, Nat.mul_one] at h
  omega
theorem q_low {q : Nat → Nat} {i v w : Nat} (h : ∀ j, j < i → q j < 67108864) : ∀ j, j < i + 1 → upd (upd q (i + 1) v) i (w % 67108864) j < 67108864 := by
  intro j hj
  unfold upd
  split
  · exact Nat.mod_lt _ (by decide)
  · rw [if_neg (by omega)]; exact h j (by omega)
theorem q_high {q : Nat → Nat} {i v w : Nat} (h : ∀ j, i < j → j < 5 → q j < 67108864) : ∀ j, i + 1 < j → j < 5 → upd (upd q (i + 1) v) i w j < 67108864 := by
  intro j hj h5
  unfold upd
  rw [if_neg (by omega), if_neg (by omega)]
  exact h j (by omega) h5
theorem q_here {q : Nat → Nat} {i w : Nat} (hi : i < 4) (h : ∀ j, i < j → j < 5 → q j < 67108864) (h2 : q i < 67108869) : upd (upd q (i + 1) (q (i + 1) + q i / 67108864)) i w (i + 1) < 67108869 := by
  unfold upd
  rw [if_neg (by omega), if_pos rfl]
  have := h (i + 1) (by omega) (by omega)
  omega
theorem q_step {q : Nat → Nat} {i : Nat} (hi : i < 4) : v26 (upd (upd q (i + 1) (q (i + 1) + q i / 67108864)) i (q i % 67108864)) 5 = v26 q 5 := by
  have h : i = 0 ∨ i = 1 ∨ i = 2 ∨ i = 3 := by omega
  rw [v26_five, v26_five]
  rcases h with rfl | rfl | rfl | rfl <;> simp [upd] <;> omega
theorem top5 {q : Nat → Nat} {T : Nat} (hq : v26 q 5 = T + 5) (hl : ∀ j, j < 4 → q j < 67108864) (hT : T < 2 ^ 130) : (0 < q 4 / 2 ^ 26 ↔ QQ ≤ T) ∧ (QQ ≤ T → v26 (upd q 4 (q 4 % 67108864)) 5 = T % QQ) := by
  have h4 := v26_lt q 4 (fun j hj => hl j hj)
  have e : v26 q 5 = v26 q 4 + q 4 * 2 ^ (26 * 4) := rfl
  have e2 := v26_upd q 4 (q 4 % 67108864) 5 (by decide)
  rw [QQ_eq]
  simp only [Nat.reduceMul] at *
  generalize v26 q 4 = A at *
  generalize v26 (upd q 4 (q 4 % 67108864)) 5 = B at *
  generalize q 4 = g at *
  omega
/-- One product more: what is above comes in below. -/
theorem pw5 (n t : Nat) (ht : 5 ≤ t) : n * 5 * 2 ^ (26 * (t - 5)) % QQ = n * 2 ^ (26 * t) % QQ := by
  have e : 2 ^ (26 * t) = 2 ^ 130 * 2 ^ (26 * (t - 5)) := by rw [← Nat.pow_add]; congr 1; omega
  have e2 : (2 : Nat) ^ 130 = 5 + QQ := by rw [QQ_eq]
  rw [e, e2, Nat.add_mul, Nat.mul_add, Nat.mul_assoc, show n * (QQ * 2 ^ (26 * (t - 5))) = QQ * (n * 2 ^ (26 * (t - 5))) by rw [Nat.mul_left_comm], Nat.add_mul_mod_self_left]
theorem tm_step {s d e : Nat → Nat} {i j y n : Nat} (hi : i < 5) (hj : j < 5) (h : v26 s 5 % QQ = (v26 d i * y + d i * v26 e j * 2 ^ (26 * i)) % QQ)
    (hn : n = if 5 ≤ i + j then d i * e j * 5 else d i * e j) :
    v26 (upd s ((i + j) % 5) (s ((i + j) % 5) + n)) 5 % QQ = (v26 d i * y + d i * v26 e (j + 1) * 2 ^ (26 * i)) % QQ := by
  have h1 := v26_upd s ((i + j) % 5) (s ((i + j) % 5) + n) 5 (Nat.mod_lt _ (by decide))
  rw [Nat.add_mul] at h1
  have h2 : v26 (upd s ((i + j) % 5) (s ((i + j) % 5) + n)) 5 = v26 s 5 + n * 2 ^ (26 * ((i + j) % 5)) := by omega
  have h3 : n * 2 ^ (26 * ((i + j) % 5)) % QQ = d i * e j * 2 ^ (26 * (i + j)) % QQ := by
    rw [hn]
    by_cases h5 : 5 ≤ i + j
    · rw [if_pos h5, show (i + j) % 5 = i + j - 5 by omega]
      exact pw5 _ _ h5
    · rw [if_neg h5, show (i + j) % 5 = i + j by omega]
  have h4 : d i * v26 e (j + 1) * 2 ^ (26 * i) = d i * v26 e j * 2 ^ (26 * i) + d i * e j * 2 ^ (26 * (i + j)) := by
    rw [v26_succ, Nat.mul_add, Nat.add_mul, Nat.mul_add 26 i j, Nat.pow_add, ← Nat.mul_assoc (d i) (e j), Nat.mul_assoc (d i * e j), Nat.mul_comm (2 ^ (26 * j))]
  rw [h2, h4, ← Nat.add_assoc, Nat.add_mod, h, h3, ← Nat.add_mod]
theorem tm_row {d e : Nat → Nat} {i y : Nat} (hy : v26 e 5 = y) : v26 d i * y + d i * v26 e 5 * 2 ^ (26 * i) = v26 d (i + 1) * y + d (i + 1) * v26 e 0 * 2 ^ (26 * (i + 1)) := by
  rw [hy, v26_succ, Nat.add_mul, show v26 e 0 = 0 from rfl, Nat.mul_zero, Nat.zero_mul, Nat.add_zero, Nat.mul_assoc, Nat.mul_comm y, ← Nat.mul_assoc]
theorem tm_end {x y : Nat} (hx : x < 2 ^ 130) : v26 (d26 x) 5 * y + d26 x 5 * v26 (d26 y) 0 * 2 ^ (26 * 5) = x * y := by
  rw [v26_d26 x 5, Nat.mod_eq_of_lt hx, show v26 (d26 y) 0 = 0 from rfl, Nat.mul_zero, Nat.zero_mul, Nat.add_zero]
theorem tm_le {x y i j : Nat} : d26 x i * d26 y j ≤ 4503599493152769 := Nat.mul_le_mul (show d26 x i ≤ 67108863 by have := d26_lt x i; omega) (show d26 y j ≤ 67108863 by have := d26_lt y j; omega)
theorem tm_bnd {s : Nat → Nat} {r m n B : Nat} (hr : r < 5) (h : ∀ t, t < 5 → s t ≤ m * B) (hn : n ≤ B) : ∀ t, t < 5 → upd s r (s r + n) t ≤ (m + 1) * B := by
  intro t ht
  have h1 := h t ht
  have h2 := h r hr
  rw [Nat.succ_mul]
  unfold upd
  split <;> omega

end Go.Proofs.Ytmnmhmpklknleaa
