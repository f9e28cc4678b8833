/-
  Plain arithmetic of bytes, read from the highest down.
-/
import Derived.Test.YtmnmhmpklknleaaNum5
namespace Go.Proofs.Ytmnmhmpklknleaa

theorem pow_pos8 (k : Nat) : 0 < 2 ^ (8 * k) := Nat.pow_pos (by decide)
theorem vb_succ (f : Nat → Nat) (k : Nat) : vb f (k + 1) = vb f k + f k * 2 ^ (8 * k) := rfl
theorem bt_low (s t i k : Nat) (h : i < k) : bt (s + t * 2 ^ (8 * k)) i = bt s i := by
  unfold bt
  have e : (2 : Nat) ^ (8 * k) = 2 ^ (8 * i) * (256 * 2 ^ (8 * (k - i - 1))) := by
    rw [show (256 : Nat) = 2 ^ 8 by decide, ← Nat.pow_add, ← Nat.pow_add]; congr 1; omega
  rw [e, ← Nat.mul_assoc, Nat.mul_comm t, Nat.mul_assoc, Nat.add_mul_div_left _ _ (pow_pos8 i), ← Nat.mul_assoc, Nat.mul_comm t, Nat.mul_assoc, Nat.add_mul_mod_self_left]
theorem bt_vb (f : Nat → Nat) : ∀ n, (∀ j, j < n → f j < 256) → ∀ j, j < n → bt (vb f n) j = f j
  | 0, _, j, h => by omega
  | n + 1, hf, j, h => by
    have h1 := vb_lt f n (fun j hj => hf j (by omega))
    rw [vb_succ]
    by_cases e : j = n
    · subst e
      unfold bt
      rw [Nat.mul_comm (f j), Nat.add_mul_div_left _ _ (pow_pos8 j), Nat.div_eq_of_lt h1, Nat.zero_add]
      exact Nat.mod_eq_of_lt (hf j (by omega))
    · rw [bt_low _ _ j n (by omega)]
      exact bt_vb f n (fun j hj => hf j (by omega)) j (by omega)
theorem bt_cut (y i : Nat) (hi : i < 31) : bt (y % 2 ^ 255) i = bt y i := by
  unfold bt
  have e : (2 : Nat) ^ 255 = 2 ^ (8 * i) * (256 * 2 ^ (247 - 8 * i)) := by
    rw [show (256 : Nat) = 2 ^ 8 by decide, ← Nat.pow_add, ← Nat.pow_add]; congr 1; omega
  rw [e, Nat.mod_mul_right_div_self, Nat.mod_mul_right_mod]
theorem bt_cut31 (y : Nat) : bt (y % 2 ^ 255) 31 = bt y 31 % 128 := by
  show y % 2 ^ 255 / 2 ^ 248 % 256 = y / 2 ^ 248 % 256 % 128
  omega
theorem byte_low {f : Nat → Nat} {i : Nat} (hf : ∀ j, j < 32 → f j < 256) (hi : i < 31) : f i = bt (vb f 32 % 2 ^ 255) i := by
  rw [bt_cut _ _ hi, bt_vb f 32 hf i (by omega)]
theorem byte_top {f : Nat → Nat} {i : Nat} (hf : ∀ j, j < 32 → f j < 256) (hi : i = 31) : f i % 128 = bt (vb f 32 % 2 ^ 255) i := by
  subst hi
  rw [bt_cut31, bt_vb f 32 hf 31 (by omega)]
theorem big_div (x j n : Nat) (h : 8 * j + 8 ≤ n) : wd x j / 2 ^ (8 * (n - 8 * j)) = 0 := by
  apply Nat.div_eq_of_lt
  have hp : 2 ^ 64 ≤ 2 ^ (8 * (n - 8 * j)) := Nat.pow_le_pow_right (by decide) (by omega)
  have := wd_lt x j
  omega
theorem down_word (x i : Nat) : (wd x (i / 8) / 2 ^ (8 * (i + 1 - 8 * (i / 8))) * 256 % 18446744073709551616 + bt x i) % 18446744073709551616 = wd x (i / 8) / 2 ^ (8 * (i - 8 * (i / 8))) := by
  have e1 : 8 * (i + 1 - 8 * (i / 8)) = 8 * (i - 8 * (i / 8)) + 8 := by omega
  have e2 : 8 * (i - 8 * (i / 8)) = i % 8 * 8 := by omega
  rw [e1, Nat.pow_add, ← Nat.div_div_eq_div_mul, ← bt_word x i, e2]
  have hl : wd x (i / 8) / 2 ^ (i % 8 * 8) < 18446744073709551616 := Nat.lt_of_le_of_lt (Nat.div_le_self _ _) (wd_lt x (i / 8))
  generalize wd x (i / 8) / 2 ^ (i % 8 * 8) = q at *
  omega
theorem down_next {x i : Nat} {s : Nat → Nat} (hs : ∀ j, j < 4 → s j = wd x j / 2 ^ (8 * (i + 1 - 8 * j))) : ∀ j, j < 4 → upd s (i / 8) (wd x (i / 8) / 2 ^ (8 * (i - 8 * (i / 8)))) j = wd x j / 2 ^ (8 * (i - 8 * j)) := fun j hj => by
  unfold upd
  split
  · rename_i h; subst h; rfl
  · rename_i h
    rw [hs j hj]
    rcases Nat.lt_or_gt_of_ne h with h1 | h1
    · rw [big_div x j (i + 1) (by omega), big_div x j i (by omega)]
    · rw [show i + 1 - 8 * j = 0 by omega, show i - 8 * j = 0 by omega]
theorem down_start (x : Nat) : ∀ j, j < 4 → 0 = wd x j / 2 ^ (8 * (32 - 8 * j)) := fun j hj => (big_div x j 32 (by omega)).symm
theorem down_end {x : Nat} {s : Nat → Nat} (hs : ∀ j, j < 4 → s j = wd x j / 2 ^ (8 * (0 - 8 * j))) : ∀ j, j < 4 → s j = wd x j := fun j hj => by
  rw [hs j hj, Nat.zero_sub, Nat.mul_zero, Nat.pow_zero, Nat.div_one]
theorem even_byte (a k : Nat) : d16 a k % 256 = bt a (2 * k) := by
  unfold d16 bt
  rw [show 8 * (2 * k) = 16 * k by omega]
  generalize a / 2 ^ (16 * k) = q
  omega
theorem odd_byte (a k : Nat) : d16 a k / 256 % 256 = bt a (2 * k + 1) := by
  unfold d16 bt
  rw [show 8 * (2 * k + 1) = 16 * k + 8 by omega, Nat.pow_add, ← Nat.div_div_eq_div_mul]
  generalize a / 2 ^ (16 * k) = q
  omega

end Go.Proofs.Ytmnmhmpklknleaa
