/-
  Plain arithmetic of products and powers: no program in sight.
-/
import Derived.Test.YtmnmhmpklknleaaNum2
namespace Go.Proofs.Ytmnmhmpklknleaa

/-! ### A product of two words -/
theorem and32 (x : Nat) : (x &&& 4294967295) % 18446744073709551616 = x % 4294967296 := by
  rw [show (4294967295 : Nat) = 2 ^ 32 - 1 by decide, Nat.and_two_pow_sub_one_eq_mod]
  omega

theorem mul64_hi (x y : Nat) (hx : x < 18446744073709551616) (hy : y < 18446744073709551616) :
    ((x / 2 ^ 32 * (y / 2 ^ 32) % 18446744073709551616 + (x / 2 ^ 32 * ((y &&& 4294967295) % 18446744073709551616) % 18446744073709551616 + ((x &&& 4294967295) % 18446744073709551616 * ((y &&& 4294967295) % 18446744073709551616) % 18446744073709551616) / 2 ^ 32) % 18446744073709551616 / 2 ^ 32) % 18446744073709551616
      + ((((x / 2 ^ 32 * ((y &&& 4294967295) % 18446744073709551616) % 18446744073709551616 + ((x &&& 4294967295) % 18446744073709551616 * ((y &&& 4294967295) % 18446744073709551616) % 18446744073709551616) / 2 ^ 32) % 18446744073709551616 &&& 4294967295) % 18446744073709551616 + (x &&& 4294967295) % 18446744073709551616 * (y / 2 ^ 32) % 18446744073709551616) % 18446744073709551616) / 2 ^ 32) % 18446744073709551616
    = x * y / 18446744073709551616 := by
  rw [and32 x, and32 y, and32]
  have hx0 : x % 4294967296 ≤ 4294967295 := by omega
  have hy0 : y % 4294967296 ≤ 4294967295 := by omega
  have hx1 : x / 2 ^ 32 ≤ 4294967295 := by omega
  have hy1 : y / 2 ^ 32 ≤ 4294967295 := by omega
  have ex : x = x / 2 ^ 32 * 4294967296 + x % 4294967296 := by omega
  have ey : y = y / 2 ^ 32 * 4294967296 + y % 4294967296 := by omega
  generalize x / 2 ^ 32 = x1 at *
  generalize x % 4294967296 = x0 at *
  generalize y / 2 ^ 32 = y1 at *
  generalize y % 4294967296 = y0 at *
  have exy : x * y = x1 * y1 * 18446744073709551616 + (x1 * y0 + x0 * y1) * 4294967296 + x0 * y0 := by
    rw [ex, ey]
    rw [Nat.add_mul, Nat.mul_add, Nat.mul_add, Nat.add_mul]
    have e1 : x1 * 4294967296 * (y1 * 4294967296) = x1 * y1 * 18446744073709551616 := by
      rw [Nat.mul_assoc, Nat.mul_left_comm 4294967296, ← Nat.mul_assoc, ← Nat.mul_assoc, Nat.mul_assoc (x1 * y1)]
    have e2 : x1 * 4294967296 * y0 = x1 * y0 * 4294967296 := by rw [Nat.mul_assoc, Nat.mul_comm 4294967296, ← Nat.mul_assoc]
    have e3 : x0 * (y1 * 4294967296) = x0 * y1 * 4294967296 := by rw [Nat.mul_assoc]
    omega
  have p11 := Nat.mul_le_mul hx1 hy1
  have p10 := Nat.mul_le_mul hx1 hy0
  have p01 := Nat.mul_le_mul hx0 hy1
  have p00 := Nat.mul_le_mul hx0 hy0
  rw [exy]
  clear exy ex ey hx hy hx0 hx1 hy0 hy1
  generalize x1 * y1 = a at *
  generalize x1 * y0 = b at *
  generalize x0 * y1 = c at *
  generalize x0 * y0 = d at *
  omega

theorem prod_lt {a b : Nat} (ha : a < 18446744073709551616) (hb : b < 18446744073709551616) : a * b ≤ 340282366920938463426481119284349108225 :=
  Nat.mul_le_mul (show a ≤ 18446744073709551615 by omega) (show b ≤ 18446744073709551615 by omega)

theorem step_lo (p c d : Nat) : ((p % 18446744073709551616 + c + 0) % 18446744073709551616 + d + 0) % 18446744073709551616 = (p + c + d) % 18446744073709551616 := by omega
theorem step_hi (p c d : Nat) (hp : p ≤ 340282366920938463426481119284349108225) (hc : c < 18446744073709551616) (hd : d < 18446744073709551616) :
    ((p / 18446744073709551616 + (p % 18446744073709551616 + c + 0) / 18446744073709551616) % 18446744073709551616 + ((p % 18446744073709551616 + c + 0) % 18446744073709551616 + d + 0) / 18446744073709551616) % 18446744073709551616 = (p + c + d) / 18446744073709551616 := by omega

/-! ### A wide product, row by row -/
theorem wd_mod (x k t : Nat) (h : t < k) : wd (x % 2 ^ (64 * k)) t = wd x t := by
  have e : x = x % 2 ^ (64 * k) + x / 2 ^ (64 * k) * 2 ^ (64 * k) := by
    have := Nat.div_add_mod x (2 ^ (64 * k))
    rw [Nat.mul_comm] at this
    omega
  conv => rhs; rw [e]
  rw [wd_low _ _ t k h]
theorem wd_zero {x t : Nat} (h : x < 2 ^ (64 * t)) : wd x t = 0 := by unfold wd; rw [Nat.div_eq_of_lt h]

def wS (a b k j : Nat) : Nat := (a % 2 ^ (64 * k) * b) % 2 ^ (64 * (k + j)) + wd a k * (b % 2 ^ (64 * j)) * 2 ^ (64 * k)
def wO (a b k j : Nat) : Nat := wS a b k j / 2 ^ (64 * (k + j))

theorem wO_zero (a b k : Nat) : wO a b k 0 = 0 := by
  unfold wO wS
  simp only [Nat.mul_zero, Nat.pow_zero, Nat.mod_one, Nat.mul_zero, Nat.zero_mul, Nat.add_zero]
  exact Nat.div_eq_of_lt (Nat.mod_lt _ (pow_pos64 k))
theorem wS_zero (a b k t : Nat) (h : t < k) : wd (wS a b k 0) t = wd (a % 2 ^ (64 * k) * b) t := by
  unfold wS
  simp only [Nat.mul_zero, Nat.pow_zero, Nat.mod_one, Nat.mul_zero, Nat.zero_mul, Nat.add_zero]
  exact wd_mod _ _ _ h
theorem wS_next (a b k j : Nat) : wS a b k (j + 1) = wS a b k j + (wd (a % 2 ^ (64 * k) * b) (k + j) + wd a k * wd b j) * 2 ^ (64 * (k + j)) := by
  unfold wS
  rw [show k + (j + 1) = k + j + 1 by omega, mod_next, mod_next b]
  have e : wd a k * (b % 2 ^ (64 * j) + wd b j * 2 ^ (64 * j)) * 2 ^ (64 * k) = wd a k * (b % 2 ^ (64 * j)) * 2 ^ (64 * k) + wd a k * wd b j * 2 ^ (64 * (k + j)) := by
    rw [Nat.mul_add, Nat.add_mul]
    congr 1
    rw [show 64 * (k + j) = 64 * j + 64 * k by omega, Nat.pow_add]
    simp only [Nat.mul_assoc]
  rw [e, Nat.add_mul]
  omega
theorem wide_lo (a b k j : Nat) : (wd a k * wd b j + wd (a % 2 ^ (64 * k) * b) (k + j) + wO a b k j) % 18446744073709551616 = wd (wS a b k (j + 1)) (k + j) := by
  rw [wS_next, wd_at]
  unfold wO
  congr 1; omega
theorem wide_hi (a b k j : Nat) : (wd a k * wd b j + wd (a % 2 ^ (64 * k) * b) (k + j) + wO a b k j) / 18446744073709551616 = wO a b k (j + 1) := by
  unfold wO
  rw [wS_next, show k + (j + 1) = k + j + 1 by omega, div_next]
  congr 1; omega
theorem wide_keep (a b k j t : Nat) (h : t < k + j) : wd (wS a b k (j + 1)) t = wd (wS a b k j) t := by
  rw [wS_next, wd_low _ _ t _ h]
theorem wO_lt (a b k j : Nat) (hj : j ≤ 4) : wO a b k j < 18446744073709551616 := by
  induction j with
  | zero => rw [wO_zero]; decide
  | succ j ih =>
    rw [← wide_hi]
    have h1 := prod_lt (wd_lt a k) (wd_lt b j)
    have h2 := wd_lt (a % 2 ^ (64 * k) * b) (k + j)
    have h3 := ih (by omega)
    omega

/-- The inner loop's step. -/
theorem inner_low {a b k j : Nat} {s : Nat → Nat} (h1 : ∀ t, t < k + j → s t = wd (wS a b k j) t) : ∀ t, t < k + (j + 1) →
    upd s (k + j) ((wd a k * wd b j + wd (a % 2 ^ (64 * k) * b) (k + j) + wO a b k j) % 18446744073709551616) t = wd (wS a b k (j + 1)) t := fun t ht => by
  unfold upd
  split
  · rename_i h; subst h; exact wide_lo a b k j
  · rw [wide_keep a b k j t (by omega)]; exact h1 t (by omega)

/-- The outer loop's step. -/
theorem outer_row {a b k : Nat} {s : Nat → Nat} (hb : b < 2 ^ 256) (h1 : ∀ t, t < k + 4 → s t = wd (wS a b k 4) t) (h2 : ∀ t, k + 4 ≤ t → t < 8 → s t = wd (a % 2 ^ (64 * k) * b) t) :
    ∀ t, t < 8 → upd s (k + 4) (wO a b k 4) t = wd (a % 2 ^ (64 * (k + 1)) * b) t := fun t ht => by
  have hA : a % 2 ^ (64 * k) * b < 2 ^ (64 * (k + 4)) := by
    have := Nat.mod_lt a (pow_pos64 k)
    rw [show 64 * (k + 4) = 64 * k + 256 by omega, Nat.pow_add]
    exact Nat.lt_of_le_of_lt (Nat.mul_le_mul_left _ (Nat.le_of_lt hb)) ((Nat.mul_lt_mul_right (by decide)).2 this)
  have hA' : a % 2 ^ (64 * (k + 1)) * b < 2 ^ (64 * (k + 5)) := by
    have := Nat.mod_lt a (pow_pos64 (k + 1))
    rw [show 64 * (k + 5) = 64 * (k + 1) + 256 by omega, Nat.pow_add]
    exact Nat.lt_of_le_of_lt (Nat.mul_le_mul_left _ (Nat.le_of_lt hb)) ((Nat.mul_lt_mul_right (by decide)).2 this)
  have e : wS a b k 4 = a % 2 ^ (64 * (k + 1)) * b := by
    unfold wS
    rw [Nat.mod_eq_of_lt hA, Nat.mod_eq_of_lt (show b < 2 ^ (64 * 4) from hb), mod_next, Nat.add_mul]
    congr 1
    rw [Nat.mul_assoc, Nat.mul_assoc, Nat.mul_comm b]
  unfold upd
  split
  · rename_i h; subst h
    unfold wO wd
    rw [e]
    refine (Nat.mod_eq_of_lt ?_).symm
    rw [Nat.div_lt_iff_lt_mul (pow_pos64 _), Nat.mul_comm 18446744073709551616, ← pow_succ64]
    exact hA'
  · rename_i h
    by_cases h3 : t < k + 4
    · rw [h1 t h3, e]
    · rw [h2 t (by omega) ht, wd_zero (Nat.lt_of_lt_of_le hA (Nat.pow_le_pow_right (by decide) (by omega))), wd_zero (Nat.lt_of_lt_of_le hA' (Nat.pow_le_pow_right (by decide) (by omega)))]

/-! ### What is left of a wide product -/
def pS (x k : Nat) : Nat := x % 2 ^ (64 * k) + 38 * (x / 2 ^ 256 % 2 ^ (64 * k))
theorem wd_up (x k : Nat) : wd x (k + 4) = wd (x / 2 ^ 256) k := by
  unfold wd
  rw [Nat.div_div_eq_div_mul, ← Nat.pow_add, show 256 + 64 * k = 64 * (k + 4) by omega]
theorem pS_next (x k : Nat) : pS x (k + 1) = pS x k + (wd x (k + 4) * 38 + wd x k) * 2 ^ (64 * k) := by
  unfold pS
  rw [mod_next, mod_next (x / 2 ^ 256), wd_up, Nat.add_mul, Nat.mul_add, Nat.mul_comm _ 38, Nat.mul_assoc 38]
  omega
theorem pS_lo (x k : Nat) : (wd x (k + 4) * 38 + wd x k + pS x k / 2 ^ (64 * k)) % 18446744073709551616 = wd (pS x (k + 1)) k := by
  rw [pS_next, wd_at]; congr 1; omega
theorem pS_hi (x k : Nat) : (wd x (k + 4) * 38 + wd x k + pS x k / 2 ^ (64 * k)) / 18446744073709551616 = pS x (k + 1) / 2 ^ (64 * (k + 1)) := by
  rw [pS_next, div_next]; congr 1; omega
theorem pS_zero (x : Nat) : pS x 0 / 2 ^ (64 * 0) = 0 := by simp [pS, Nat.mod_one]
theorem pS_lt (x k : Nat) : pS x k / 2 ^ (64 * k) < 39 := by
  rw [Nat.div_lt_iff_lt_mul (pow_pos64 k)]
  unfold pS
  have h1 := Nat.mod_lt x (pow_pos64 k)
  have h2 := Nat.mod_lt (x / 2 ^ 256) (pow_pos64 k)
  omega
theorem pS_low {x k : Nat} {s : Nat → Nat} (h : ∀ t, t < k → s t = wd (pS x k) t) : ∀ t, t < k + 1 → upd s k ((wd x (k + 4) * 38 + wd x k + pS x k / 2 ^ (64 * k)) % 18446744073709551616) t = wd (pS x (k + 1)) t := fun t ht => by
  unfold upd
  split
  · rename_i e; subst e; exact pS_lo x t
  · rw [pS_next, wd_low _ _ t k (by omega)]; exact h t (by omega)
theorem pS_fin (x : Nat) (hx : x < 2 ^ 256 * 2 ^ 256) : (pS x 4 % 2 ^ 256 + pS x 4 / 2 ^ (64 * 4) * 2 ^ 256) % PP = x % PP := by
  have e1 : pS x 4 % 2 ^ 256 + pS x 4 / 2 ^ (64 * 4) * 2 ^ 256 = pS x 4 := by
    have := Nat.div_add_mod (pS x 4) (2 ^ 256)
    rw [Nat.mul_comm] at this
    show pS x 4 % 2 ^ 256 + pS x 4 / 2 ^ 256 * 2 ^ 256 = _
    omega
  rw [e1]
  unfold pS
  have h1 : x / 2 ^ 256 < 2 ^ 256 := by
    rw [Nat.div_lt_iff_lt_mul (Nat.pow_pos (by decide))]; exact hx
  rw [Nat.mod_eq_of_lt (show x / 2 ^ 256 < 2 ^ (64 * 4) from h1)]
  have e2 := Nat.div_add_mod x (2 ^ 256)
  show (x % 2 ^ 256 + 38 * (x / 2 ^ 256)) % PP = x % PP
  generalize x / 2 ^ 256 = h at *
  generalize x % 2 ^ 256 = l at *
  have e3 : x = l + 38 * h + PP * (2 * h) := by unfold PP; omega
  rw [e3, Nat.add_mul_mod_self_left]
theorem mul_lt512 {a b : Nat} (ha : a < 2 ^ 256) (hb : b < 2 ^ 256) : a * b < 2 ^ 256 * 2 ^ 256 := Nat.mul_lt_mul_of_lt_of_le ha (Nat.le_of_lt hb) (by decide)

/-! ### Powers -/
abbrev EE : Nat := 57896044618658097711785492504343953926634992332820282019728792003956564819947
theorem EE_bits : ∀ k, k < 255 → EE / 2 ^ (255 - (k + 1)) = 2 * (EE / 2 ^ (255 - k)) + (if k = 252 ∨ k = 250 then 0 else 1) := by
  have h : (List.range 255).all (fun k => EE / 2 ^ (255 - (k + 1)) == 2 * (EE / 2 ^ (255 - k)) + (if k = 252 ∨ k = 250 then 0 else 1)) = true := by decide +kernel
  intro k hk
  have := (List.all_eq_true.1 h) k (by simpa using hk)
  simpa using this
theorem pow_sq (a e : Nat) : (a ^ e % PP) * (a ^ e % PP) % PP = a ^ (2 * e) % PP := by
  rw [← Nat.mul_mod, ← Nat.pow_add, Nat.two_mul]
theorem pow_one_more (a e : Nat) : (a ^ e % PP) * a % PP = a ^ (e + 1) % PP := by
  rw [Nat.pow_succ, Nat.mul_mod, Nat.mod_mod, ← Nat.mul_mod]
theorem inv_skip (a k pw : Nat) (hk : k < 255) (h : k = 252 ∨ k = 250) (hp : pw = a ^ (EE / 2 ^ (255 - k)) % PP) : pw * pw % PP = a ^ (EE / 2 ^ (255 - (k + 1))) % PP := by
  rw [EE_bits k hk, if_pos h, hp, pow_sq, Nat.add_zero]
theorem inv_take (a k pw : Nat) (hk : k < 255) (h : ¬ (k = 252 ∨ k = 250)) (hp : pw = a ^ (EE / 2 ^ (255 - k)) % PP) : (pw * pw % PP) * a % PP = a ^ (EE / 2 ^ (255 - (k + 1))) % PP := by
  rw [EE_bits k hk, if_neg h, hp, pow_sq, pow_one_more]
theorem inv_first (a : Nat) : 1 = a ^ (EE / 2 ^ (255 - 0)) % PP := by
  rw [show EE / 2 ^ (255 - 0) = 0 by decide, Nat.pow_zero]; decide
theorem inv_last (a : Nat) : a ^ (EE / 2 ^ (255 - 255)) = a ^ EE := by
  rw [show EE / 2 ^ (255 - 255) = EE by decide]
theorem EE_lt : EE < PP := by decide

theorem sub_fin (a b : Nat) (ha : a < PP) (hb : b < PP) : ((a + 2 ^ 256 - b) % 2 ^ 256 + PP * (if a < b then 1 else 0)) % 2 ^ 256 = (a + PP - b) % PP := by
  unfold PP at *
  split <;> omega

end Go.Proofs.Ytmnmhmpklknleaa
