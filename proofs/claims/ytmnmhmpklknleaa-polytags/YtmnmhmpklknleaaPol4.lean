/-
  The end of the one-time sum, in plain numbers.
-/
import Derived.Test.YtmnmhmpklknleaaPol3
namespace Go.Proofs.Ytmnmhmpklknleaa
open Go Go.RowKit

/-- What is carried below place i. -/
def cr (x y i : Nat) : Nat := (x % 256 ^ i + y % 256 ^ i) / 256 ^ i
def tgn (x y i : Nat) : Nat := (x + y) / 256 ^ i % 256
theorem p256 (i : Nat) : 0 < 256 ^ i := Nat.pow_pos (by decide)
theorem cr_zero (x y : Nat) : cr x y 0 = 0 := by simp [cr, Nat.mod_one]
theorem cr_le (x y i : Nat) : cr x y i ≤ 1 := by
  unfold cr
  have h1 := Nat.mod_lt x (p256 i)
  have h2 := Nat.mod_lt y (p256 i)
  have : (x % 256 ^ i + y % 256 ^ i) / 256 ^ i < 2 := Nat.div_lt_of_lt_mul (by omega)
  omega
theorem cr_next (x y i : Nat) : (cr x y i + (x / 256 ^ i % 256 + y / 256 ^ i % 256)) / 256 = cr x y (i + 1) := by
  unfold cr
  rw [Nat.pow_succ, Nat.mod_mul, Nat.mod_mul (x := y)]
  generalize x / 256 ^ i % 256 = a
  generalize y / 256 ^ i % 256 = b
  generalize x % 256 ^ i = p
  generalize y % 256 ^ i = q
  rw [← Nat.div_div_eq_div_mul]
  congr 1
  have hp := p256 i
  generalize 256 ^ i = M at *
  rw [show p + M * a + (q + M * b) = p + q + M * (a + b) by rw [Nat.mul_add]; omega, Nat.add_mul_div_left _ _ hp]
theorem tgn_at (x y i : Nat) : (cr x y i + (x / 256 ^ i % 256 + y / 256 ^ i % 256)) % 256 = tgn x y i := by
  unfold cr tgn
  have hp := p256 i
  have ex := Nat.div_add_mod x (256 ^ i)
  have ey := Nat.div_add_mod y (256 ^ i)
  have e : (x + y) / 256 ^ i = x / 256 ^ i + y / 256 ^ i + (x % 256 ^ i + y % 256 ^ i) / 256 ^ i := by
    conv => lhs; rw [← ex, ← ey]
    generalize 256 ^ i = M at *
    rw [show M * (x / M) + x % M + (M * (y / M) + y % M) = x % M + y % M + M * (x / M + y / M) by rw [Nat.mul_add]; omega, Nat.add_mul_div_left _ _ hp]
    omega
  rw [e]
  omega
theorem k3_wd (x : Nat) : k3 (wd x) = x % 2 ^ 128 := by
  unfold k3 wd
  simp only [Nat.mul_zero, Nat.pow_zero, Nat.div_one, Nat.mul_one]
  omega
theorem lw_get {r : Nat → Nat} (h0 : r 0 < 18446744073709551616) {i : Nat} (hi : i < 16) : (lw r)[i]? = some (k3 r / 256 ^ i % 256) := by
  unfold lw
  by_cases h : i < 8
  · rw [List.getElem?_append_left (by rw [lowl_len]; exact h)]
    simp only [lowl, List.getElem?_map, List.getElem?_range h, Option.map_some]
    congr 1
    unfold k3
    have : i = 0 ∨ i = 1 ∨ i = 2 ∨ i = 3 ∨ i = 4 ∨ i = 5 ∨ i = 6 ∨ i = 7 := by omega
    rcases this with rfl | rfl | rfl | rfl | rfl | rfl | rfl | rfl <;> simp only [Nat.reducePow] <;> omega
  · rw [List.getElem?_append_right (by rw [lowl_len]; omega), lowl_len]
    simp only [lowl, List.getElem?_map, List.getElem?_range (show i - 8 < 8 by omega), Option.map_some]
    congr 1
    unfold k3
    have : i = 8 ∨ i = 9 ∨ i = 10 ∨ i = 11 ∨ i = 12 ∨ i = 13 ∨ i = 14 ∨ i = 15 := by omega
    rcases this with rfl | rfl | rfl | rfl | rfl | rfl | rfl | rfl <;> simp only [Nat.reducePow, Nat.reduceSub] <;> omega

end Go.Proofs.Ytmnmhmpklknleaa
