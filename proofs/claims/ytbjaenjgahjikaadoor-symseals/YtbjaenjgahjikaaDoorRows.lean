/-
  NARROWER THAN 'FOR EVERY INPUT', by the rows' own cells (each row's printed sentence says how): SymBegins: laid · SymMixes: laid · SymSeals: laid · SymAlike: laid.
  DERIVED. THE GIVEN ROWS OF THIS SEAT. 4 by the template 'for every input the law returns true; each argument reads behind the call as it read before'; 0 by the template 'total and deterministic' (their statements: YtbjaenjgahjikaaDoorTotals.lean).
  GIVEN WITH THE SEED: the statements are not yours to turn. If you find one false, say at which input.
  Laid BY PROGRAM, IN A SANDBOX (cutbox-rows.mjs): the forced cells as the released guide's own fill.sh prints them over the translation 43c195890f5a7c78… (all of the seat's roots in one cut). By AI agents, Wed Nov 11 2026. No macro, syntax, notation, axiom, sorry.
-/
import Derived.Test.YtbjaenjgahjikaaDoorChecked
import GoSem.Claim
import GoSem.ClaimJoined
import GoSem.ClaimMapViews
import Derived.JoinedTies
import Derived.KernelRfl
namespace Go.Proofs.YtbjaenjgahjikaaDoor
/- THE CELL 'sum', in the pinned program and in every row, IS THE sha256 OF THE DUMP (.gsa) THAT YtbjaenjgahjikaaDoorProg.lean LOADS. Nothing in Lean hashes anything: it is a label: what it is worth is what the hold of that sum in a sandbox is worth. -/
noncomputable def Tryd.pinned : Pinned := { name := "ytbjaenjgahjikaadoor", sum := "43c195890f5a7c78a052ccf82fb66cb0dd4bc75aa870c33adb81f475c308a706", checked := Tryd.checked }
namespace Rows
def none {H : Type} : Left H := { results := [], args := [] }

/- WHAT THE LISTED PACKAGE-LEVEL VARIABLES READ AS WHEN THE CALL BEGINS. Each datum BY PROGRAM (the guide's laid-datum.mjs) off the statement by which the dump's own 'gosem.cut.vars' lays the variable. In a bare row this is a premise. The card (YtbjaenjgahjikaaDoorCards.lean) ties it to the program's text. -/
def laid_signet_blake_orders {H : Type} : DataW H := .agg [.agg [.lit (.int .i64 0), .lit (.int .i64 1), .lit (.int .i64 2), .lit (.int .i64 3), .lit (.int .i64 4), .lit (.int .i64 5), .lit (.int .i64 6), .lit (.int .i64 7), .lit (.int .i64 8), .lit (.int .i64 9), .lit (.int .i64 10), .lit (.int .i64 11), .lit (.int .i64 12), .lit (.int .i64 13), .lit (.int .i64 14), .lit (.int .i64 15)], .agg [.lit (.int .i64 14), .lit (.int .i64 10), .lit (.int .i64 4), .lit (.int .i64 8), .lit (.int .i64 9), .lit (.int .i64 15), .lit (.int .i64 13), .lit (.int .i64 6), .lit (.int .i64 1), .lit (.int .i64 12), .lit (.int .i64 0), .lit (.int .i64 2), .lit (.int .i64 11), .lit (.int .i64 7), .lit (.int .i64 5), .lit (.int .i64 3)], .agg [.lit (.int .i64 11), .lit (.int .i64 8), .lit (.int .i64 12), .lit (.int .i64 0), .lit (.int .i64 5), .lit (.int .i64 2), .lit (.int .i64 15), .lit (.int .i64 13), .lit (.int .i64 10), .lit (.int .i64 14), .lit (.int .i64 3), .lit (.int .i64 6), .lit (.int .i64 7), .lit (.int .i64 1), .lit (.int .i64 9), .lit (.int .i64 4)], .agg [.lit (.int .i64 7), .lit (.int .i64 9), .lit (.int .i64 3), .lit (.int .i64 1), .lit (.int .i64 13), .lit (.int .i64 12), .lit (.int .i64 11), .lit (.int .i64 14), .lit (.int .i64 2), .lit (.int .i64 6), .lit (.int .i64 5), .lit (.int .i64 10), .lit (.int .i64 4), .lit (.int .i64 0), .lit (.int .i64 15), .lit (.int .i64 8)], .agg [.lit (.int .i64 9), .lit (.int .i64 0), .lit (.int .i64 5), .lit (.int .i64 7), .lit (.int .i64 2), .lit (.int .i64 4), .lit (.int .i64 10), .lit (.int .i64 15), .lit (.int .i64 14), .lit (.int .i64 1), .lit (.int .i64 11), .lit (.int .i64 12), .lit (.int .i64 6), .lit (.int .i64 8), .lit (.int .i64 3), .lit (.int .i64 13)], .agg [.lit (.int .i64 2), .lit (.int .i64 12), .lit (.int .i64 6), .lit (.int .i64 10), .lit (.int .i64 0), .lit (.int .i64 11), .lit (.int .i64 8), .lit (.int .i64 3), .lit (.int .i64 4), .lit (.int .i64 13), .lit (.int .i64 7), .lit (.int .i64 5), .lit (.int .i64 15), .lit (.int .i64 14), .lit (.int .i64 1), .lit (.int .i64 9)], .agg [.lit (.int .i64 12), .lit (.int .i64 5), .lit (.int .i64 1), .lit (.int .i64 15), .lit (.int .i64 14), .lit (.int .i64 13), .lit (.int .i64 4), .lit (.int .i64 10), .lit (.int .i64 0), .lit (.int .i64 7), .lit (.int .i64 6), .lit (.int .i64 3), .lit (.int .i64 9), .lit (.int .i64 2), .lit (.int .i64 8), .lit (.int .i64 11)], .agg [.lit (.int .i64 13), .lit (.int .i64 11), .lit (.int .i64 7), .lit (.int .i64 14), .lit (.int .i64 12), .lit (.int .i64 1), .lit (.int .i64 3), .lit (.int .i64 9), .lit (.int .i64 5), .lit (.int .i64 0), .lit (.int .i64 15), .lit (.int .i64 4), .lit (.int .i64 8), .lit (.int .i64 6), .lit (.int .i64 2), .lit (.int .i64 10)], .agg [.lit (.int .i64 6), .lit (.int .i64 15), .lit (.int .i64 14), .lit (.int .i64 9), .lit (.int .i64 11), .lit (.int .i64 3), .lit (.int .i64 0), .lit (.int .i64 8), .lit (.int .i64 12), .lit (.int .i64 2), .lit (.int .i64 13), .lit (.int .i64 7), .lit (.int .i64 1), .lit (.int .i64 4), .lit (.int .i64 10), .lit (.int .i64 5)], .agg [.lit (.int .i64 10), .lit (.int .i64 2), .lit (.int .i64 8), .lit (.int .i64 4), .lit (.int .i64 7), .lit (.int .i64 6), .lit (.int .i64 1), .lit (.int .i64 5), .lit (.int .i64 15), .lit (.int .i64 11), .lit (.int .i64 9), .lit (.int .i64 14), .lit (.int .i64 3), .lit (.int .i64 12), .lit (.int .i64 13), .lit (.int .i64 0)]]
def laid_signet_signetref_iv {H : Type} : DataW H := .agg [.lit (.int .u32 1779033703), .lit (.int .u32 3144134277), .lit (.int .u32 1013904242), .lit (.int .u32 2773480762), .lit (.int .u32 1359893119), .lit (.int .u32 2600822924), .lit (.int .u32 528734635), .lit (.int .u32 1541459225)]

/-- 'signetlaw.SymBegins': WHATEVER THE INPUT: true; the input reads as it did. -/
def symBeginsSpec : ChangeSpec := { name := "symBegins", fn := fun _ => fun
  | [d1, d2] => { results := [.lit (.bool true)], args := [d1, d2] }
  | _ => none }
def symBeginsRow : OpenClaim := { program := "ytbjaenjgahjikaadoor", sum := "43c195890f5a7c78a052ccf82fb66cb0dd4bc75aa870c33adb81f475c308a706", func := "signet/signetlaw.SymBegins", spec := "symBegins", unfollowed := true, recurses := true, named := ["signet/blake.orders", "signet/signetref.iv"], apart := false, laid := [("signet/blake.orders", laid_signet_blake_orders), ("signet/signetref.iv", laid_signet_signetref_iv)] }
def SymBeginsSaid : Prop := symBeginsRow.holds Tryd.pinned (OpenSpec.ofChange symBeginsSpec)

/-- ITS FALSE NEIGHBOUR: 'it returns false'. Refute it at one input. -/
def symBeginsWrong : ChangeSpec := { name := "symBegins", fn := fun _ => fun
  | [d1, d2] => { results := [.lit (.bool false)], args := [d1, d2] }
  | _ => none }
def SymBeginsWrongFalsely : Prop := symBeginsRow.holds Tryd.pinned (OpenSpec.ofChange symBeginsWrong)

/-- 'signetlaw.SymMixes': WHATEVER THE INPUT: true; the input reads as it did. -/
def symMixesSpec : ChangeSpec := { name := "symMixes", fn := fun _ => fun
  | [d1, d2] => { results := [.lit (.bool true)], args := [d1, d2] }
  | _ => none }
def symMixesRow : OpenClaim := { program := "ytbjaenjgahjikaadoor", sum := "43c195890f5a7c78a052ccf82fb66cb0dd4bc75aa870c33adb81f475c308a706", func := "signet/signetlaw.SymMixes", spec := "symMixes", unfollowed := true, recurses := true, named := ["signet/blake.orders", "signet/signetref.iv"], apart := false, laid := [("signet/blake.orders", laid_signet_blake_orders), ("signet/signetref.iv", laid_signet_signetref_iv)] }
def SymMixesSaid : Prop := symMixesRow.holds Tryd.pinned (OpenSpec.ofChange symMixesSpec)

/-- ITS FALSE NEIGHBOUR: 'it returns false'. Refute it at one input. -/
def symMixesWrong : ChangeSpec := { name := "symMixes", fn := fun _ => fun
  | [d1, d2] => { results := [.lit (.bool false)], args := [d1, d2] }
  | _ => none }
def SymMixesWrongFalsely : Prop := symMixesRow.holds Tryd.pinned (OpenSpec.ofChange symMixesWrong)

/-- 'signetlaw.SymSeals': WHATEVER THE INPUT: true; the input reads as it did. -/
def symSealsSpec : ChangeSpec := { name := "symSeals", fn := fun _ => fun
  | [d1, d2] => { results := [.lit (.bool true)], args := [d1, d2] }
  | _ => none }
def symSealsRow : OpenClaim := { program := "ytbjaenjgahjikaadoor", sum := "43c195890f5a7c78a052ccf82fb66cb0dd4bc75aa870c33adb81f475c308a706", func := "signet/signetlaw.SymSeals", spec := "symSeals", inPlace := ["math/bits.Sub64", "math/bits.Add64"], unfollowed := true, recurses := true, named := ["signet/blake.orders", "signet/signetref.iv"], apart := false, laid := [("signet/blake.orders", laid_signet_blake_orders), ("signet/signetref.iv", laid_signet_signetref_iv)] }
def SymSealsSaid : Prop := symSealsRow.holds Tryd.pinned (OpenSpec.ofChange symSealsSpec)

/-- ITS FALSE NEIGHBOUR: 'it returns false'. Refute it at one input. -/
def symSealsWrong : ChangeSpec := { name := "symSeals", fn := fun _ => fun
  | [d1, d2] => { results := [.lit (.bool false)], args := [d1, d2] }
  | _ => none }
def SymSealsWrongFalsely : Prop := symSealsRow.holds Tryd.pinned (OpenSpec.ofChange symSealsWrong)

/-- 'signetkeep.SymAlike': WHATEVER THE INPUT: true; the input reads as it did. -/
def symAlikeSpec : ChangeSpec := { name := "symAlike", fn := fun _ => fun
  | [d1, d2] => { results := [.lit (.bool true)], args := [d1, d2] }
  | _ => none }
def symAlikeRow : OpenClaim := { program := "ytbjaenjgahjikaadoor", sum := "43c195890f5a7c78a052ccf82fb66cb0dd4bc75aa870c33adb81f475c308a706", func := "signet/signetkeep.SymAlike", spec := "symAlike", inPlace := ["math/bits.Sub64", "math/bits.Add64"], unfollowed := true, recurses := true, named := ["signet/blake.orders"], apart := false, laid := [("signet/blake.orders", laid_signet_blake_orders)] }
def SymAlikeSaid : Prop := symAlikeRow.holds Tryd.pinned (OpenSpec.ofChange symAlikeSpec)

/-- ITS FALSE NEIGHBOUR: 'it returns false'. Refute it at one input. -/
def symAlikeWrong : ChangeSpec := { name := "symAlike", fn := fun _ => fun
  | [d1, d2] => { results := [.lit (.bool false)], args := [d1, d2] }
  | _ => none }
def SymAlikeWrongFalsely : Prop := symAlikeRow.holds Tryd.pinned (OpenSpec.ofChange symAlikeWrong)

/- THE SECOND FORM. 'bulk': how many values and letters a reading holds, each counted each time it is reached (what is shared counts as often as it is met; a slice's spare places count too). A statement '..UptoSaid' is the law's where the arguments, and the package variables that the reading takes, are together of bulk at most 1048576: NARROWER than '..Said'. Prove '..Said' where nothing that the law and all that it calls make is longer than what came in: it says more and counts as full. Else prove '..UptoSaid'. A law counts once. -/
mutual
def uptoBulk {H : Type} : DataW H → Nat
  | .lit (.string bytes) => bytes.length + 1
  | .lit _ => 1
  | .nil => 1
  | .ptr d => uptoBulk d + 1
  | .slice elems spare => uptoBulkAll elems + uptoBulkAll spare + 1
  | .agg parts => uptoBulkAll parts + 1
  | .iface _ d => uptoBulk d + 1
  | .map entries => uptoBulkEntries entries + 1
  | .held _ => 1
def uptoBulkAll {H : Type} : List (DataW H) → Nat
  | [] => 0
  | d :: r => uptoBulk d + uptoBulkAll r
def uptoBulkEntries {H : Type} : List (Lit × DataW H) → Nat
  | [] => 0
  | x :: r => uptoBulkEntry x + uptoBulkEntries r
def uptoBulkEntry {H : Type} : Lit × DataW H → Nat
  | (.string bytes, d) => bytes.length + uptoBulk d + 1
  | (_, d) => uptoBulk d + 1
 end
def uptoSmall : (H : Type) → List (DataW H) → Bool := fun _ ds => decide (uptoBulkAll ds ≤ 1048576)
def OpenSpec.upto (s : _root_.Go.ChangeSpec) : _root_.Go.OpenSpec := { _root_.Go.OpenSpec.ofChange s with cond := some uptoSmall }

/-- 'signetlaw.SymBegins', WHERE WHAT IT READS IS OF BULK AT MOST 1048576: true; the input reads as it did. -/
def symBeginsUptoRow : OpenClaim := { program := "ytbjaenjgahjikaadoor", sum := "43c195890f5a7c78a052ccf82fb66cb0dd4bc75aa870c33adb81f475c308a706", func := "signet/signetlaw.SymBegins", spec := "symBegins", unfollowed := true, recurses := true, named := ["signet/blake.orders", "signet/signetref.iv"], apart := false, laid := [("signet/blake.orders", laid_signet_blake_orders), ("signet/signetref.iv", laid_signet_signetref_iv)], narrowed := true }
def SymBeginsUptoSaid : Prop := symBeginsUptoRow.holds Tryd.pinned (OpenSpec.upto symBeginsSpec)

/-- 'signetlaw.SymMixes', WHERE WHAT IT READS IS OF BULK AT MOST 1048576: true; the input reads as it did. -/
def symMixesUptoRow : OpenClaim := { program := "ytbjaenjgahjikaadoor", sum := "43c195890f5a7c78a052ccf82fb66cb0dd4bc75aa870c33adb81f475c308a706", func := "signet/signetlaw.SymMixes", spec := "symMixes", unfollowed := true, recurses := true, named := ["signet/blake.orders", "signet/signetref.iv"], apart := false, laid := [("signet/blake.orders", laid_signet_blake_orders), ("signet/signetref.iv", laid_signet_signetref_iv)], narrowed := true }
def SymMixesUptoSaid : Prop := symMixesUptoRow.holds Tryd.pinned (OpenSpec.upto symMixesSpec)

/-- 'signetlaw.SymSeals', WHERE WHAT IT READS IS OF BULK AT MOST 1048576: true; the input reads as it did. -/
def symSealsUptoRow : OpenClaim := { program := "ytbjaenjgahjikaadoor", sum := "43c195890f5a7c78a052ccf82fb66cb0dd4bc75aa870c33adb81f475c308a706", func := "signet/signetlaw.SymSeals", spec := "symSeals", inPlace := ["math/bits.Sub64", "math/bits.Add64"], unfollowed := true, recurses := true, named := ["signet/blake.orders", "signet/signetref.iv"], apart := false, laid := [("signet/blake.orders", laid_signet_blake_orders), ("signet/signetref.iv", laid_signet_signetref_iv)], narrowed := true }
def SymSealsUptoSaid : Prop := symSealsUptoRow.holds Tryd.pinned (OpenSpec.upto symSealsSpec)

/-- 'signetkeep.SymAlike', WHERE WHAT IT READS IS OF BULK AT MOST 1048576: true; the input reads as it did. -/
def symAlikeUptoRow : OpenClaim := { program := "ytbjaenjgahjikaadoor", sum := "43c195890f5a7c78a052ccf82fb66cb0dd4bc75aa870c33adb81f475c308a706", func := "signet/signetkeep.SymAlike", spec := "symAlike", inPlace := ["math/bits.Sub64", "math/bits.Add64"], unfollowed := true, recurses := true, named := ["signet/blake.orders"], apart := false, laid := [("signet/blake.orders", laid_signet_blake_orders)], narrowed := true }
def SymAlikeUptoSaid : Prop := symAlikeUptoRow.holds Tryd.pinned (OpenSpec.upto symAlikeSpec)

end Rows
end Go.Proofs.YtbjaenjgahjikaaDoor
