/-
  The tag of RFC 8439, reckoned.
-/
import Derived.Test.YtmnmhmpklknleaaPol5
namespace Go.Proofs.Ytmnmhmpklknleaa
open Go Go.RowKit

abbrev pkL : List Nat := [133, 214, 190, 120, 87, 85, 109, 51, 127, 68, 82, 254, 66, 213, 6, 168, 1, 3, 128, 138, 251, 13, 178, 253, 74, 191, 246, 175, 65, 73, 245, 27]
def pkk (j : Nat) : Nat := pkL.getD j 0
abbrev pkm : List Nat := [67, 114, 121, 112, 116, 111, 103, 114, 97, 112, 104, 105, 99, 32, 70, 111, 114, 117, 109, 32, 82, 101, 115, 101, 97, 114, 99, 104, 32, 71, 114, 111, 117, 112]
abbrev pkA : List Nat := [168, 6, 29, 193, 48, 81, 54, 198]
theorem pkk_lt : ∀ j, j < 32 → pkk j < 256 := by decide
theorem pkm_lt : ∀ b ∈ pkm, b < 256 := by decide
theorem pkm_le : pkm.length ≤ 140737488351232 := by decide
theorem pk_out : ∀ i, i < 8 → ptg pkk pkm i = pkA.getD i 0 := by decide +kernel

end Go.Proofs.Ytmnmhmpklknleaa
