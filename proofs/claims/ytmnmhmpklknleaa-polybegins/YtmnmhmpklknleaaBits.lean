/-
  What math/bits.Add64 and Sub64 answer, over Nat.
-/
import Derived.Test.YtmnmhmpklknleaaRows
import Derived.Test.YtmnmhmpklknleaaNum
namespace Go.Proofs.Ytmnmhmpklknleaa
open Go Go.RowKit

theorem add64 (x y c : Nat) (hc : c ≤ 1) (w : World) : (callFunc 40 #[u x, u y, u c]).run Try.prog w =
    .ok (.value (.tuple #[u ((x + y + c) % 18446744073709551616), u ((x + y + c) / 18446744073709551616)])) w := by
  rw [run_callFunc_extern Try.func40 (by kernel_rfl) (by kernel_rfl) (by kernel_rfl) (e := add64Entry) (by kernel_rfl), run_add64 x y c (by omega) (by omega) (by omega) (by omega)]
  rfl

def sub64Run : Array Value → Sem Value := fun args => do
  let (x, y, b) ← Extern.MathBitsCarry.three "Sub64" args
  pure (Extern.MathBitsCarry.pair ((x + Extern.MathBitsCarry.m64 - y - b) % Extern.MathBitsCarry.m64) (if x < y + b then 1 else 0))

theorem sub64 (x y b : Nat) (hb : b ≤ 1) (_hy : y < 18446744073709551616) (w : World) : (callFunc 36 #[u x, u y, u b]).run Try.prog w =
    .ok (.value (.tuple #[u ((x + 18446744073709551616 - y - b) % 18446744073709551616), u (if x < y + b then 1 else 0)])) w := by
  rw [run_callFunc_extern Try.func36 (by kernel_rfl) (by kernel_rfl) (by kernel_rfl) (e := sub64Run) (by kernel_rfl)]
  have : b = 0 ∨ b = 1 := by omega
  rcases this with rfl | rfl <;> rfl

end Go.Proofs.Ytmnmhmpklknleaa
