/-
  DERIVED. GIVEN WITH THE SEED: THE CARDS: each row of YtlaebpebgjaehaaDoorRows.lean that lists a variable, with what it lists TIED to the program's text (the seventh form; the later family's looks); each row that meets fmt, with fmt's text TOLD by the authors' own Lean function (tested against real Go, not proved from fmt's source: count such statements apart). THE CARD IS WHAT COUNTS. Prove the row's statement (the work); the ties are given (YtlaebpebgjaehaaDoorTie.lean); close each card by the builder's one call (the guide's Derived/Test/ToyasCard.lean, 'card_holds'). Laid BY PROGRAM, IN A SANDBOX (cutbox-door.mjs). By AI agents, Wed Nov 11 2026. No macro, syntax, notation, axiom, sorry.
-/
import Derived.Test.YtlaebpebgjaehaaDoorRows
import GoSem.ClaimSeven
namespace Go.Proofs.YtlaebpebgjaehaaDoor
namespace Rows

/-- THE TIED CARD OF 'signetlaw.BlakeAdds'. -/
def blakeAddsCard : Claim7 := { stood := { row := blakeAddsRow, standIns := [], harness := (true, "68b53798bdfd9ffbe31fde81cc301b91cf15c239a3c07d02bb0a466bec2418c5"), looks := false }, kinds := [], alts := [], laidByText := true, laidKinds := [.data, .data], laidTests := true, laidLooks := .later }
def BlakeAddsCardSaid : Prop := Claim7.holds Tryd.pinned (.plain (OpenSpec.ofChange blakeAddsSpec)) blakeAddsCard

/-- THE TIED CARD OF 'signetlaw.BlakeEnds'. -/
def blakeEndsCard : Claim7 := { stood := { row := blakeEndsRow, standIns := [], harness := (true, "68b53798bdfd9ffbe31fde81cc301b91cf15c239a3c07d02bb0a466bec2418c5"), looks := false }, kinds := [], alts := [], laidByText := true, laidKinds := [.data, .data], laidTests := true, laidLooks := .later }
def BlakeEndsCardSaid : Prop := Claim7.holds Tryd.pinned (.plain (OpenSpec.ofChange blakeEndsSpec)) blakeEndsCard

/-- THE TIED CARD OF 'signetlaw.BlakeSums'. -/
def blakeSumsCard : Claim7 := { stood := { row := blakeSumsRow, standIns := [], harness := (true, "68b53798bdfd9ffbe31fde81cc301b91cf15c239a3c07d02bb0a466bec2418c5"), looks := false }, kinds := [], alts := [], laidByText := true, laidKinds := [.data, .data], laidTests := true, laidLooks := .later }
def BlakeSumsCardSaid : Prop := Claim7.holds Tryd.pinned (.plain (OpenSpec.ofChange blakeSumsSpec)) blakeSumsCard

/-- THE TIED CARD OF 'signetkeep.BlakeParts'. -/
def blakePartsCard : Claim7 := { stood := { row := blakePartsRow, standIns := [], harness := (true, "68b53798bdfd9ffbe31fde81cc301b91cf15c239a3c07d02bb0a466bec2418c5"), looks := false }, kinds := [], alts := [], laidByText := true, laidKinds := [.data], laidTests := true, laidLooks := .later }
def BlakePartsCardSaid : Prop := Claim7.holds Tryd.pinned (.plain (OpenSpec.ofChange blakePartsSpec)) blakePartsCard

/-- THE TIED CARD OF 'signetkeep.BlakeKnown'. -/
def blakeKnownCard : Claim7 := { stood := { row := blakeKnownRow, standIns := [], harness := (true, "68b53798bdfd9ffbe31fde81cc301b91cf15c239a3c07d02bb0a466bec2418c5"), looks := false }, kinds := [], alts := [], laidByText := true, laidKinds := [.data], laidTests := true, laidLooks := .later }
def BlakeKnownCardSaid : Prop := Claim7.holds Tryd.pinned (.plain (OpenSpec.ofChange blakeKnownSpec)) blakeKnownCard

/-- THE SECOND FORM's CARD OF 'signetlaw.BlakeAdds'. -/
def blakeAddsUptoCard : Claim7 := { stood := { row := blakeAddsUptoRow, standIns := [], harness := (true, "68b53798bdfd9ffbe31fde81cc301b91cf15c239a3c07d02bb0a466bec2418c5"), looks := false }, kinds := [], alts := [], laidByText := true, laidKinds := [.data, .data], laidTests := true, laidLooks := .later }
def BlakeAddsUptoCardSaid : Prop := Claim7.holds Tryd.pinned (.plain (OpenSpec.upto blakeAddsSpec)) blakeAddsUptoCard

/-- THE SECOND FORM's CARD OF 'signetlaw.BlakeEnds'. -/
def blakeEndsUptoCard : Claim7 := { stood := { row := blakeEndsUptoRow, standIns := [], harness := (true, "68b53798bdfd9ffbe31fde81cc301b91cf15c239a3c07d02bb0a466bec2418c5"), looks := false }, kinds := [], alts := [], laidByText := true, laidKinds := [.data, .data], laidTests := true, laidLooks := .later }
def BlakeEndsUptoCardSaid : Prop := Claim7.holds Tryd.pinned (.plain (OpenSpec.upto blakeEndsSpec)) blakeEndsUptoCard

/-- THE SECOND FORM's CARD OF 'signetlaw.BlakeSums'. -/
def blakeSumsUptoCard : Claim7 := { stood := { row := blakeSumsUptoRow, standIns := [], harness := (true, "68b53798bdfd9ffbe31fde81cc301b91cf15c239a3c07d02bb0a466bec2418c5"), looks := false }, kinds := [], alts := [], laidByText := true, laidKinds := [.data, .data], laidTests := true, laidLooks := .later }
def BlakeSumsUptoCardSaid : Prop := Claim7.holds Tryd.pinned (.plain (OpenSpec.upto blakeSumsSpec)) blakeSumsUptoCard

/-- THE SECOND FORM's CARD OF 'signetkeep.BlakeParts'. -/
def blakePartsUptoCard : Claim7 := { stood := { row := blakePartsUptoRow, standIns := [], harness := (true, "68b53798bdfd9ffbe31fde81cc301b91cf15c239a3c07d02bb0a466bec2418c5"), looks := false }, kinds := [], alts := [], laidByText := true, laidKinds := [.data], laidTests := true, laidLooks := .later }
def BlakePartsUptoCardSaid : Prop := Claim7.holds Tryd.pinned (.plain (OpenSpec.upto blakePartsSpec)) blakePartsUptoCard

/-- THE SECOND FORM's CARD OF 'signetkeep.BlakeKnown'. -/
def blakeKnownUptoCard : Claim7 := { stood := { row := blakeKnownUptoRow, standIns := [], harness := (true, "68b53798bdfd9ffbe31fde81cc301b91cf15c239a3c07d02bb0a466bec2418c5"), looks := false }, kinds := [], alts := [], laidByText := true, laidKinds := [.data], laidTests := true, laidLooks := .later }
def BlakeKnownUptoCardSaid : Prop := Claim7.holds Tryd.pinned (.plain (OpenSpec.upto blakeKnownSpec)) blakeKnownUptoCard
end Rows
end Go.Proofs.YtlaebpebgjaehaaDoor
