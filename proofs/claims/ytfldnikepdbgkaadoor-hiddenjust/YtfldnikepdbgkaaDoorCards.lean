/-
  DERIVED. GIVEN WITH THE SEED: THE CARDS: each row of YtfldnikepdbgkaaDoorRows.lean that lists a variable, with what it lists TIED to the program's text (the seventh form; the later family's looks); each row that meets fmt, with fmt's text TOLD by the authors' own Lean function (tested against real Go, not proved from fmt's source: count such statements apart). THE CARD IS WHAT COUNTS. Prove the row's statement (the work); the ties are given (YtfldnikepdbgkaaDoorTie.lean); close each card by the builder's one call (the guide's Derived/Test/ToyasCard.lean, 'card_holds'). Laid BY PROGRAM, IN A SANDBOX (cutbox-door.mjs). By AI agents, Wed Nov 11 2026. No macro, syntax, notation, axiom, sorry.
-/
import Derived.Test.YtfldnikepdbgkaaDoorRows
import GoSem.ClaimSeven
namespace Go.Proofs.YtfldnikepdbgkaaDoor
namespace Rows

/-- THE TIED CARD OF 'signetkeep.HiddenJust'. -/
def hiddenJustCard : Claim7 := { stood := { row := hiddenJustRow, standIns := [], harness := (true, "20acc237fcd471eb6a5ed4024cdacf0fd4a93de7b9152d44cde63aa89aa0e4e0"), looks := false }, kinds := [], alts := [], laidByText := true, laidKinds := [.data], laidTests := true, laidLooks := .later }
def HiddenJustCardSaid : Prop := Claim7.holds Tryd.pinned (.plain (OpenSpec.ofChange hiddenJustSpec)) hiddenJustCard

/-- THE TIED CARD OF 'signetkeep.HiddenLater'. -/
def hiddenLaterCard : Claim7 := { stood := { row := hiddenLaterRow, standIns := [], harness := (true, "20acc237fcd471eb6a5ed4024cdacf0fd4a93de7b9152d44cde63aa89aa0e4e0"), looks := false }, kinds := [], alts := [], laidByText := true, laidKinds := [.data], laidTests := true, laidLooks := .later }
def HiddenLaterCardSaid : Prop := Claim7.holds Tryd.pinned (.plain (OpenSpec.ofChange hiddenLaterSpec)) hiddenLaterCard

/-- THE SECOND FORM's CARD OF 'signetkeep.HiddenJust'. -/
def hiddenJustUptoCard : Claim7 := { stood := { row := hiddenJustUptoRow, standIns := [], harness := (true, "20acc237fcd471eb6a5ed4024cdacf0fd4a93de7b9152d44cde63aa89aa0e4e0"), looks := false }, kinds := [], alts := [], laidByText := true, laidKinds := [.data], laidTests := true, laidLooks := .later }
def HiddenJustUptoCardSaid : Prop := Claim7.holds Tryd.pinned (.plain (OpenSpec.upto hiddenJustSpec)) hiddenJustUptoCard

/-- THE SECOND FORM's CARD OF 'signetkeep.HiddenLater'. -/
def hiddenLaterUptoCard : Claim7 := { stood := { row := hiddenLaterUptoRow, standIns := [], harness := (true, "20acc237fcd471eb6a5ed4024cdacf0fd4a93de7b9152d44cde63aa89aa0e4e0"), looks := false }, kinds := [], alts := [], laidByText := true, laidKinds := [.data], laidTests := true, laidLooks := .later }
def HiddenLaterUptoCardSaid : Prop := Claim7.holds Tryd.pinned (.plain (OpenSpec.upto hiddenLaterSpec)) hiddenLaterUptoCard
end Rows
end Go.Proofs.YtfldnikepdbgkaaDoor
