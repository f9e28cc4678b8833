/-
  DERIVED. GIVEN WITH THE SEED: THE CARDS: each row of YthljakcegoohlaaDoorRows.lean that lists a variable, with what it lists TIED to the program's text (the seventh form; the later family's looks); each row that meets fmt, with fmt's text TOLD by the authors' own Lean function (tested against real Go, not proved from fmt's source: count such statements apart). THE CARD IS WHAT COUNTS. Prove the row's statement (the work); the ties are given (YthljakcegoohlaaDoorTie.lean); close each card by the builder's one call (the guide's Derived/Test/ToyasCard.lean, 'card_holds'). Laid BY PROGRAM, IN A SANDBOX (cutbox-door.mjs). By AI agents, Wed Nov 11 2026. No macro, syntax, notation, axiom, sorry.
-/
import Derived.Test.YthljakcegoohlaaDoorRows
import GoSem.ClaimSeven
namespace Go.Proofs.YthljakcegoohlaaDoor
namespace Rows

/-- THE TIED CARD OF 'signetlaw.ShakeSplits'. -/
def shakeSplitsCard : Claim7 := { stood := { row := shakeSplitsRow, standIns := [], harness := (true, "3d184374014969f2e79a1a531669c0da25945e769ad907c2ea883e2a98ec021a"), looks := false }, kinds := [], alts := [], laidByText := true, laidKinds := [.data, .data], laidTests := true, laidLooks := .later }
def ShakeSplitsCardSaid : Prop := Claim7.holds Tryd.pinned (.plain (OpenSpec.ofChange shakeSplitsSpec)) shakeSplitsCard

/-- THE SECOND FORM's CARD OF 'signetlaw.ShakeSplits'. -/
def shakeSplitsUptoCard : Claim7 := { stood := { row := shakeSplitsUptoRow, standIns := [], harness := (true, "3d184374014969f2e79a1a531669c0da25945e769ad907c2ea883e2a98ec021a"), looks := false }, kinds := [], alts := [], laidByText := true, laidKinds := [.data, .data], laidTests := true, laidLooks := .later }
def ShakeSplitsUptoCardSaid : Prop := Claim7.holds Tryd.pinned (.plain (OpenSpec.upto shakeSplitsSpec)) shakeSplitsUptoCard
end Rows
end Go.Proofs.YthljakcegoohlaaDoor
