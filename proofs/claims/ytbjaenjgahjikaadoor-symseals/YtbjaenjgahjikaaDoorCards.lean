/-
  DERIVED. GIVEN WITH THE SEED: THE CARDS: each row of YtbjaenjgahjikaaDoorRows.lean that lists a variable, with what it lists TIED to the program's text (the seventh form; the later family's looks); each row that meets fmt, with fmt's text TOLD by the authors' own Lean function (tested against real Go, not proved from fmt's source: count such statements apart). THE CARD IS WHAT COUNTS. Prove the row's statement (the work); the ties are given (YtbjaenjgahjikaaDoorTie.lean); close each card by the builder's one call (the guide's Derived/Test/ToyasCard.lean, 'card_holds'). Laid BY PROGRAM, IN A SANDBOX (cutbox-door.mjs). By AI agents, Wed Nov 11 2026. No macro, syntax, notation, axiom, sorry.
-/
import Derived.Test.YtbjaenjgahjikaaDoorRows
import GoSem.ClaimSeven
namespace Go.Proofs.YtbjaenjgahjikaaDoor
namespace Rows

/-- THE TIED CARD OF 'signetlaw.SymBegins'. -/
def symBeginsCard : Claim7 := { stood := { row := symBeginsRow, standIns := [], harness := (true, "28be2905ef9130df1e2533220017785b20c1f2c594e50c9bc6b8e5ead9caa2c0"), looks := false }, kinds := [], alts := [], laidByText := true, laidKinds := [.data, .data], laidTests := true, laidLooks := .later }
def SymBeginsCardSaid : Prop := Claim7.holds Tryd.pinned (.plain (OpenSpec.ofChange symBeginsSpec)) symBeginsCard

/-- THE TIED CARD OF 'signetlaw.SymMixes'. -/
def symMixesCard : Claim7 := { stood := { row := symMixesRow, standIns := [], harness := (true, "28be2905ef9130df1e2533220017785b20c1f2c594e50c9bc6b8e5ead9caa2c0"), looks := false }, kinds := [], alts := [], laidByText := true, laidKinds := [.data, .data], laidTests := true, laidLooks := .later }
def SymMixesCardSaid : Prop := Claim7.holds Tryd.pinned (.plain (OpenSpec.ofChange symMixesSpec)) symMixesCard

/-- THE TIED CARD OF 'signetlaw.SymSeals'. -/
def symSealsCard : Claim7 := { stood := { row := symSealsRow, standIns := [], harness := (true, "28be2905ef9130df1e2533220017785b20c1f2c594e50c9bc6b8e5ead9caa2c0"), looks := false }, kinds := [], alts := [], laidByText := true, laidKinds := [.data, .data], laidTests := true, laidLooks := .later }
def SymSealsCardSaid : Prop := Claim7.holds Tryd.pinned (.plain (OpenSpec.ofChange symSealsSpec)) symSealsCard

/-- THE TIED CARD OF 'signetkeep.SymAlike'. -/
def symAlikeCard : Claim7 := { stood := { row := symAlikeRow, standIns := [], harness := (true, "28be2905ef9130df1e2533220017785b20c1f2c594e50c9bc6b8e5ead9caa2c0"), looks := false }, kinds := [], alts := [], laidByText := true, laidKinds := [.data], laidTests := true, laidLooks := .later }
def SymAlikeCardSaid : Prop := Claim7.holds Tryd.pinned (.plain (OpenSpec.ofChange symAlikeSpec)) symAlikeCard

/-- THE SECOND FORM's CARD OF 'signetlaw.SymBegins'. -/
def symBeginsUptoCard : Claim7 := { stood := { row := symBeginsUptoRow, standIns := [], harness := (true, "28be2905ef9130df1e2533220017785b20c1f2c594e50c9bc6b8e5ead9caa2c0"), looks := false }, kinds := [], alts := [], laidByText := true, laidKinds := [.data, .data], laidTests := true, laidLooks := .later }
def SymBeginsUptoCardSaid : Prop := Claim7.holds Tryd.pinned (.plain (OpenSpec.upto symBeginsSpec)) symBeginsUptoCard

/-- THE SECOND FORM's CARD OF 'signetlaw.SymMixes'. -/
def symMixesUptoCard : Claim7 := { stood := { row := symMixesUptoRow, standIns := [], harness := (true, "28be2905ef9130df1e2533220017785b20c1f2c594e50c9bc6b8e5ead9caa2c0"), looks := false }, kinds := [], alts := [], laidByText := true, laidKinds := [.data, .data], laidTests := true, laidLooks := .later }
def SymMixesUptoCardSaid : Prop := Claim7.holds Tryd.pinned (.plain (OpenSpec.upto symMixesSpec)) symMixesUptoCard

/-- THE SECOND FORM's CARD OF 'signetlaw.SymSeals'. -/
def symSealsUptoCard : Claim7 := { stood := { row := symSealsUptoRow, standIns := [], harness := (true, "28be2905ef9130df1e2533220017785b20c1f2c594e50c9bc6b8e5ead9caa2c0"), looks := false }, kinds := [], alts := [], laidByText := true, laidKinds := [.data, .data], laidTests := true, laidLooks := .later }
def SymSealsUptoCardSaid : Prop := Claim7.holds Tryd.pinned (.plain (OpenSpec.upto symSealsSpec)) symSealsUptoCard

/-- THE SECOND FORM's CARD OF 'signetkeep.SymAlike'. -/
def symAlikeUptoCard : Claim7 := { stood := { row := symAlikeUptoRow, standIns := [], harness := (true, "28be2905ef9130df1e2533220017785b20c1f2c594e50c9bc6b8e5ead9caa2c0"), looks := false }, kinds := [], alts := [], laidByText := true, laidKinds := [.data], laidTests := true, laidLooks := .later }
def SymAlikeUptoCardSaid : Prop := Claim7.holds Tryd.pinned (.plain (OpenSpec.upto symAlikeSpec)) symAlikeUptoCard
end Rows
end Go.Proofs.YtbjaenjgahjikaaDoor
