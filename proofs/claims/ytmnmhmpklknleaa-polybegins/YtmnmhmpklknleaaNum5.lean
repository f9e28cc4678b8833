/-
  Plain arithmetic of the product by digits, of powers from the lowest bit up, and of bytes from the highest down.
-/
import Derived.Test.YtmnmhmpklknleaaNum4
namespace Go.Proofs.Ytmnmhmpklknleaa

theorem mod_next16 (x k : Nat) : x % 2 ^ (16 * (k + 1)) = x % 2 ^ (16 * k) + d16 x k * 2 ^ (16 * k) := by
  rw [← vs_d16, ← vs_d16, vs_succ]
theorem mul16_le (x y k j : Nat) : d16 x k * d16 y j ≤ 4294836225 :=
  Nat.mul_le_mul (show d16 x k ≤ 65535 from Nat.le_of_lt_succ (d16_lt x k)) (show d16 y j ≤ 65535 from Nat.le_of_lt_succ (d16_lt y j))
theorem prod_in {x y k j : Nat} {o : Nat → Nat} (hkj : k + j < 32) (h : vs o 32 = x % 2 ^ (16 * k) * y + d16 x k * (y % 2 ^ (16 * j)) * 2 ^ (16 * k)) :
    vs (upd o (k + j) (o (k + j) + d16 x k * d16 y j)) 32 = x % 2 ^ (16 * k) * y + d16 x k * (y % 2 ^ (16 * (j + 1))) * 2 ^ (16 * k) := by
  have h1 := vs_upd o (k + j) (o (k + j) + d16 x k * d16 y j) 32 hkj
  have h2 : d16 x k * (y % 2 ^ (16 * (j + 1))) * 2 ^ (16 * k) = d16 x k * (y % 2 ^ (16 * j)) * 2 ^ (16 * k) + d16 x k * d16 y j * 2 ^ (16 * (k + j)) := by
    rw [mod_next16, Nat.mul_add, Nat.add_mul, show 16 * (k + j) = 16 * j + 16 * k by omega, Nat.pow_add, Nat.mul_assoc, Nat.mul_assoc, Nat.mul_assoc, Nat.mul_assoc]
  rw [Nat.add_mul] at h1
  omega
theorem prod_out {x y k : Nat} {o : Nat → Nat} (hy : y < 2 ^ 256) (h : vs o 32 = x % 2 ^ (16 * k) * y + d16 x k * (y % 2 ^ (16 * 16)) * 2 ^ (16 * k)) :
    vs o 32 = x % 2 ^ (16 * (k + 1)) * y := by
  rw [Nat.mod_eq_of_lt (show y < 2 ^ (16 * 16) from hy)] at h
  rw [h, mod_next16 x k, Nat.add_mul, Nat.mul_assoc, Nat.mul_assoc, Nat.mul_comm y]
theorem bnd_all {o : Nat → Nat} {k j m : Nat} (h1 : ∀ t, o t ≤ (k + 1) * 4294836225) (h2 : ∀ t, k + j ≤ t → o t ≤ k * 4294836225) (hm : m ≤ 4294836225) :
    ∀ t, upd o (k + j) (o (k + j) + m) t ≤ (k + 1) * 4294836225 := fun t => by
  have := h2 (k + j) (Nat.le_refl _)
  unfold upd
  split
  · omega
  · exact h1 t
theorem bnd_up {o : Nat → Nat} {k j v : Nat} (h2 : ∀ t, k + j ≤ t → o t ≤ k * 4294836225) :
    ∀ t, k + (j + 1) ≤ t → upd o (k + j) v t ≤ k * 4294836225 := fun t ht => by
  unfold upd
  rw [if_neg (by omega)]
  exact h2 t (by omega)
theorem vs_split (o : Nat → Nat) (M : Nat) : ∀ n, vs o (M + n) = vs o M + 2 ^ (16 * M) * vs (fun t => o (t + M)) n
  | 0 => by simp [vs]
  | n + 1 => by
    rw [← Nat.add_assoc M n 1, vs_succ o (M + n), vs_split o M n, vs_succ _ n, Nat.mul_add 16 M n, Nat.pow_add, Nat.mul_add (2 ^ (16 * M)), Nat.add_comm M n, Nat.mul_left_comm (2 ^ (16 * M)), Nat.add_assoc]
theorem vs_scale (a b : Nat → Nat) : ∀ n, vs (fun t => a t + 38 * b t) n = vs a n + 38 * vs b n
  | 0 => by simp [vs]
  | n + 1 => by
    rw [vs_succ, vs_succ, vs_succ, vs_scale a b n, Nat.add_mul, Nat.mul_assoc]; omega
theorem prod_fin {o s : Nat → Nat} {z : Nat} (h : vs o 32 = z) (hs : ∀ t, t < 16 → s t = o t + 38 * o (t + 16)) : vs s 16 % PP = z % PP := by
  have h1 : vs o 32 = vs o 16 + 2 ^ 256 * vs (fun t => o (t + 16)) 16 := vs_split o 16 16
  have h2 : vs s 16 = vs o 16 + 38 * vs (fun t => o (t + 16)) 16 := by
    rw [← vs_scale o (fun t => o (t + 16))]; exact vs_congr 16 hs
  rw [h2, ← h, h1]
  generalize vs o 16 = p
  generalize vs (fun t => o (t + 16)) 16 = q
  rw [show p + 2 ^ 256 * q = p + 38 * q + PP * (2 * q) by unfold PP; omega, Nat.add_mul_mod_self_left]

theorem vs_none : ∀ n, vs (fun _ => 0) n = 0
  | 0 => rfl
  | n + 1 => by rw [vs_succ, vs_none n, Nat.zero_mul]
theorem prod_start (x y : Nat) : vs (fun _ => 0) 32 = x % 2 ^ (16 * 0) * y := by
  rw [vs_none, Nat.mul_zero, Nat.pow_zero, Nat.mod_one, Nat.zero_mul]

/-! ### Powers, from the lowest bit up -/
theorem sq_up (x k b : Nat) (h : b = x ^ (2 ^ k) % PP) : b * b % PP = x ^ (2 ^ (k + 1)) % PP := by
  rw [h, pow_sq, Nat.pow_succ 2 k, Nat.mul_comm 2]
theorem pow_take (x k o b : Nat) (ho : o = x ^ (EE % 2 ^ k) % PP) (hb : b = x ^ (2 ^ k) % PP) (h : EE / 2 ^ k % 2 = 1) : o * b % PP = x ^ (EE % 2 ^ (k + 1)) % PP := by
  rw [ho, hb, ← Nat.mul_mod, ← Nat.pow_add, Nat.pow_succ 2 k, Nat.mod_mul, h, Nat.mul_one]
theorem pow_skip (x k o : Nat) (ho : o = x ^ (EE % 2 ^ k) % PP) (h : ¬ EE / 2 ^ k % 2 = 1) : o = x ^ (EE % 2 ^ (k + 1)) % PP := by
  have h0 : EE / 2 ^ k % 2 = 0 := by omega
  rw [ho, Nat.pow_succ 2 k, Nat.mod_mul, h0, Nat.mul_zero, Nat.add_zero]
theorem pow_last (x : Nat) : x ^ (EE % 2 ^ 255) % PP = x ^ EE % PP := by
  rw [Nat.mod_eq_of_lt (show EE < 2 ^ 255 by decide)]
theorem pow_none (x : Nat) : 1 = x ^ (EE % 2 ^ 0) % PP := by
  rw [Nat.pow_zero, Nat.mod_one, Nat.pow_zero]; decide
theorem digit_bit (e k : Nat) : d16 e (k / 16) / 2 ^ (k % 16) % 2 = e / 2 ^ k % 2 := by
  unfold d16
  have e16 : 16 * (k / 16) + k % 16 = k := by omega
  have hm : k % 16 < 16 := Nat.mod_lt _ (by decide)
  have e64 : (65536 : Nat) = 2 ^ (k % 16) * (2 * 2 ^ (15 - k % 16)) := by
    rw [← Nat.pow_succ', ← Nat.pow_add, show k % 16 + (15 - k % 16 + 1) = 16 by omega]
  rw [e64, Nat.mod_mul_right_div_self, Nat.mod_mul_right_mod, Nat.div_div_eq_div_mul, ← Nat.pow_add, e16]
theorem sub_two (a : Nat) (h : 2 ≤ a) (h2 : a < 65536) : (a + 18446744073709551616 - 2) % 18446744073709551616 = a - 2 := by omega
theorem EE_two : (d16 PP 0 + 18446744073709551616 - 2) % 18446744073709551616 = d16 PP 0 - 2 := sub_two _ (by decide +kernel) (d16_lt PP 0)
theorem EE_digits : ∀ j, j < 16 → upd (d16 PP) 0 (d16 PP 0 - 2) j = d16 EE j := by decide +kernel
theorem dg_one (x : Nat) (hx : x < 65536) : Value.agg (arr .u64 16 (upd (fun _ => 0) 0 x)) = dg x := by
  rw [dg]; congr 1
  apply arr_congr
  intro j hj
  unfold upd d16
  split
  · rename_i h; subst h; simp; omega
  · rename_i h
    have hp : 2 ^ 16 ≤ 2 ^ (16 * j) := Nat.pow_le_pow_right (by decide) (by omega)
    rw [Nat.div_eq_of_lt (by omega)]

end Go.Proofs.Ytmnmhmpklknleaa
