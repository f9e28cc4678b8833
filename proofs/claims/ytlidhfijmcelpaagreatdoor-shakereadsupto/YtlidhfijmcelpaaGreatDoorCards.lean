/-
  DERIVED. GIVEN WITH THE SEED: THE CARDS: each row of YtlidhfijmcelpaaGreatDoorRows.lean that lists a variable, with what it lists TIED to the program's text (the seventh form; the later family's looks); each row that meets fmt, with fmt's text TOLD by the authors' own Lean function (tested against real Go, not proved from fmt's source: count such statements apart). THE CARD IS WHAT COUNTS. Prove the row's statement (the work); the ties are given (YtlidhfijmcelpaaGreatDoorTie.lean); close each card by the builder's one call (the guide's Derived/Test/ToyasCard.lean, 'card_holds'). Laid BY PROGRAM, IN A SANDBOX (cutbox-door.mjs). By AI agents, Wed Nov 11 2026. No macro, syntax, notation, axiom, sorry.
-/
import Derived.Test.YtlidhfijmcelpaaGreatDoorRows
import GoSem.ClaimSeven
namespace Go.Proofs.YtlidhfijmcelpaaGreatDoor
namespace Rows

/-- THE TIED CARD OF 'signetlaw.ShakeBegins'. -/
def shakeBeginsCard : Claim7 := { stood := { row := shakeBeginsRow, standIns := [], harness := (true, "7e4eabb735ab2e708c19e0551a8028121b28f7f8b4bd414971320d21ea9f1222"), looks := false }, kinds := [], alts := [], laidByText := true, laidKinds := [.data, .data, .listed, .data, .data, .data, .pinned], laidTests := true, laidLooks := .later }
def ShakeBeginsCardSaid : Prop := Claim7.holds Tryz.pinned (.plain (OpenSpec.ofChange shakeBeginsSpec)) shakeBeginsCard

/-- THE TIED CARD OF 'signetlaw.ShakeWrites'. -/
def shakeWritesCard : Claim7 := { stood := { row := shakeWritesRow, standIns := [], harness := (true, "7e4eabb735ab2e708c19e0551a8028121b28f7f8b4bd414971320d21ea9f1222"), looks := false }, kinds := [], alts := [], laidByText := true, laidKinds := [.data, .data, .data], laidTests := true, laidLooks := .later }
def ShakeWritesCardSaid : Prop := Claim7.holds Tryz.pinned (.plain (OpenSpec.ofChange shakeWritesSpec)) shakeWritesCard

/-- THE TIED CARD OF 'signetlaw.ShakeReads'. -/
def shakeReadsCard : Claim7 := { stood := { row := shakeReadsRow, standIns := [], harness := (true, "7e4eabb735ab2e708c19e0551a8028121b28f7f8b4bd414971320d21ea9f1222"), looks := false }, kinds := [], alts := [], laidByText := true, laidKinds := [.data, .data, .data], laidTests := true, laidLooks := .later }
def ShakeReadsCardSaid : Prop := Claim7.holds Tryz.pinned (.plain (OpenSpec.ofChange shakeReadsSpec)) shakeReadsCard

/-- THE SECOND FORM's CARD OF 'signetlaw.ShakeBegins'. -/
def shakeBeginsUptoCard : Claim7 := { stood := { row := shakeBeginsUptoRow, standIns := [], harness := (true, "7e4eabb735ab2e708c19e0551a8028121b28f7f8b4bd414971320d21ea9f1222"), looks := false }, kinds := [], alts := [], laidByText := true, laidKinds := [.data, .data, .listed, .data, .data, .data, .pinned], laidTests := true, laidLooks := .later }
def ShakeBeginsUptoCardSaid : Prop := Claim7.holds Tryz.pinned (.plain (OpenSpec.upto shakeBeginsSpec)) shakeBeginsUptoCard

/-- THE SECOND FORM's CARD OF 'signetlaw.ShakeWrites'. -/
def shakeWritesUptoCard : Claim7 := { stood := { row := shakeWritesUptoRow, standIns := [], harness := (true, "7e4eabb735ab2e708c19e0551a8028121b28f7f8b4bd414971320d21ea9f1222"), looks := false }, kinds := [], alts := [], laidByText := true, laidKinds := [.data, .data, .data], laidTests := true, laidLooks := .later }
def ShakeWritesUptoCardSaid : Prop := Claim7.holds Tryz.pinned (.plain (OpenSpec.upto shakeWritesSpec)) shakeWritesUptoCard

/-- THE SECOND FORM's CARD OF 'signetlaw.ShakeReads'. -/
def shakeReadsUptoCard : Claim7 := { stood := { row := shakeReadsUptoRow, standIns := [], harness := (true, "7e4eabb735ab2e708c19e0551a8028121b28f7f8b4bd414971320d21ea9f1222"), looks := false }, kinds := [], alts := [], laidByText := true, laidKinds := [.data, .data, .data], laidTests := true, laidLooks := .later }
def ShakeReadsUptoCardSaid : Prop := Claim7.holds Tryz.pinned (.plain (OpenSpec.upto shakeReadsSpec)) shakeReadsUptoCard
end Rows
end Go.Proofs.YtlidhfijmcelpaaGreatDoor
