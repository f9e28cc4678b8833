/-
  DERIVED. GIVEN WITH THE SEED: THE CARDS: each row of YthljakcegoohlabGreatDoorRows.lean that lists a variable, with what it lists TIED to the program's text (the seventh form; the later family's looks); each row that meets fmt, with fmt's text TOLD by the authors' own Lean function (tested against real Go, not proved from fmt's source: count such statements apart). THE CARD IS WHAT COUNTS. Prove the row's statement (the work); the ties are given (YthljakcegoohlabGreatDoorTie.lean); close each card by the builder's one call (the guide's Derived/Test/ToyasCard.lean, 'card_holds'). Laid BY PROGRAM, IN A SANDBOX (cutbox-door.mjs). By AI agents, Wed Nov 11 2026. No macro, syntax, notation, axiom, sorry.
-/
import Derived.Test.YthljakcegoohlabGreatDoorRows
import GoSem.ClaimSeven
namespace Go.Proofs.YthljakcegoohlabGreatDoor
namespace Rows

/-- THE TIED CARD OF 'signetkeep.ShakeBack'. -/
def shakeBackCard : Claim7 := { stood := { row := shakeBackRow, standIns := [], harness := (true, "26d97262fb59d334279010ca126fd6c3beeb07f0918cfaf3d37d7282cfbd5a97"), looks := false }, kinds := [], alts := [], laidByText := true, laidKinds := [.data], laidTests := true, laidLooks := .later }
def ShakeBackCardSaid : Prop := Claim7.holds Tryz.pinned (.plain (OpenSpec.ofChange shakeBackSpec)) shakeBackCard

/-- THE SECOND FORM's CARD OF 'signetkeep.ShakeBack'. -/
def shakeBackUptoCard : Claim7 := { stood := { row := shakeBackUptoRow, standIns := [], harness := (true, "26d97262fb59d334279010ca126fd6c3beeb07f0918cfaf3d37d7282cfbd5a97"), looks := false }, kinds := [], alts := [], laidByText := true, laidKinds := [.data], laidTests := true, laidLooks := .later }
def ShakeBackUptoCardSaid : Prop := Claim7.holds Tryz.pinned (.plain (OpenSpec.upto shakeBackSpec)) shakeBackUptoCard
end Rows
end Go.Proofs.YthljakcegoohlabGreatDoor
