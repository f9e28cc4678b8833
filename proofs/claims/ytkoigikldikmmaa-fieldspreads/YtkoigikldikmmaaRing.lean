/-
  Sums and products by the prime: plain arithmetic.
-/
import Derived.Test.YtkoigikldikmmaaNum3
namespace Go.Proofs.Ytkoigikldikmmaa

theorem eq_words {x y : Nat} (h : x = y) : allEq 4 (wd x) (wd y) = true := by rw [h]; exact allEq_iff.2 fun _ _ => rfl
theorem spread_eq (x y z : Nat) : (x + y) % PP * z % PP = (x * z % PP + y * z % PP) % PP := by
  rw [Nat.mul_mod, Nat.mod_mod, ← Nat.mul_mod, Nat.add_mul, Nat.add_mod]
theorem back_eq (x y : Nat) (hx : x < PP) (hy : y < PP) : ((x + PP - y) % PP + y) % PP = x := by
  unfold PP at *; omega
theorem add_assoc_eq (x y z : Nat) : ((x + y) % PP + z) % PP = (x + (y + z) % PP) % PP := by
  rw [Nat.add_mod, Nat.mod_mod, ← Nat.add_mod, Nat.add_mod x, Nat.mod_mod, ← Nat.add_mod, Nat.add_assoc]
theorem add_comm_eq (x y : Nat) : (x + y) % PP = (y + x) % PP := by rw [Nat.add_comm]
theorem mul_assoc_eq (x y z : Nat) : (x * y % PP) * z % PP = x * (y * z % PP) % PP := by
  rw [Nat.mul_mod, Nat.mod_mod, ← Nat.mul_mod, Nat.mul_mod x, Nat.mod_mod, ← Nat.mul_mod, Nat.mul_assoc]
theorem mul_comm_eq (x y : Nat) : x * y % PP = y * x % PP := by rw [Nat.mul_comm]

end Go.Proofs.Ytkoigikldikmmaa
