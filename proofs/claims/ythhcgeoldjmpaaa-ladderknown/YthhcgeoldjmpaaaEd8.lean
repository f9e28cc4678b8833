/-
  Numbers below the prime and their sums, differences, products and inverses, as numbers of the field. Plain algebra.
-/
import Derived.Test.YthhcgeoldjmpaaaEd7
namespace Go.Proofs.Ythhcgeoldjmpaaa

def fv (x : Nat) : F := ⟨x % PP, Nat.mod_lt _ (by decide)⟩
theorem fv_val (x : Nat) : (fv x).val = x % PP := rfl
theorem fv_lt {x : Nat} (h : x < PP) : (fv x).val = x := Nat.mod_eq_of_lt h
theorem fv_mod (x : Nat) : fv (x % PP) = fv x := F_eq (Nat.mod_mod x PP)
theorem fv_of (a : F) : fv a.val = a := F_eq (Nat.mod_eq_of_lt a.isLt)
theorem fv_inj {x y : Nat} (hx : x < PP) (hy : y < PP) (h : fv x = fv y) : x = y := by
  have := congrArg Fin.val h
  rw [fv_lt hx, fv_lt hy] at this; exact this
theorem fv_add (x y : Nat) : fv ((x + y) % PP) = fv x + fv y := by
  apply F_eq
  rw [Fin.val_add, fv_val, fv_val, fv_val, Nat.mod_mod, Nat.add_mod]
theorem fv_mul (x y : Nat) : fv (x * y % PP) = fv x * fv y := by
  apply F_eq
  rw [F_val_mul, fv_val, fv_val, fv_val, Nat.mod_mod, Nat.mul_mod]
theorem fv_PP : fv PP = 0 := F_eq (Nat.mod_self PP)
theorem fv_plus (x y : Nat) : fv (x + y) = fv x + fv y := by rw [← fv_mod, fv_add]
theorem fv_sub {x y : Nat} (hy : y ≤ PP) : fv ((x + PP - y) % PP) = fv x - fv y := by
  have h : fv ((x + PP - y) + y) = fv (x + PP) := by rw [Nat.sub_add_cancel (by omega)]
  rw [fv_plus, fv_plus, fv_PP] at h
  rw [fv_mod]
  generalize fv (x + PP - y) = a at *
  generalize fv x = b at *
  generalize fv y = c at *
  grobner
theorem fv_opp {y : Nat} (hy : y ≤ PP) : fv ((PP - y) % PP) = -fv y := by
  have h : fv ((PP - y) + y) = fv PP := by rw [Nat.sub_add_cancel hy]
  rw [fv_plus, fv_PP] at h
  rw [fv_mod]
  generalize fv (PP - y) = a at *
  generalize fv y = c at *
  grobner
theorem pw_fv (x n : Nat) : fv (x ^ n % PP) = pw (fv x) n := by
  apply F_eq
  show x ^ n % PP % PP = (x % PP) ^ n % PP
  rw [Nat.mod_mod, ← Nat.pow_mod]
theorem fv_inv (x : Nat) : fv (x ^ EE % PP) = iv (fv x) := pw_fv x EE
theorem fv_zero {x : Nat} (h : x < PP) : fv x = 0 ↔ x = 0 := by
  constructor
  · intro h0
    have := congrArg Fin.val h0
    rw [fv_lt h] at this; exact this
  · intro h0; subst h0; rfl

end Go.Proofs.Ythhcgeoldjmpaaa
