/-
  NARROWER THAN 'FOR EVERY INPUT', by the rows' own cells (each row's printed sentence says how): BlakeAdds: laid · BlakeEnds: laid · BlakeSums: laid · BlakeParts: laid · BlakeKnown: laid.
  DERIVED. THE GIVEN ROWS OF THIS SEAT. 5 by the template 'for every input the law returns true; each argument reads behind the call as it read before'; 0 by the template 'total and deterministic' (their statements: YtlaebpebgjaehaaDoorTotals.lean).
  GIVEN WITH THE SEED: the statements are not yours to turn. If you find one false, say at which input.
  Laid BY PROGRAM, IN A SANDBOX (cutbox-rows.mjs): the forced cells as the released guide's own fill.sh prints them over the translation d3b0ca461851583c… (all of the seat's roots in one cut). By AI agents, Wed Nov 11 2026. No macro, syntax, notation, axiom, sorry.
-/
import Derived.Test.YtlaebpebgjaehaaDoorChecked
import GoSem.Claim
import GoSem.ClaimJoined
import GoSem.ClaimMapViews
import Derived.JoinedTies
import Derived.KernelRfl
namespace Go.Proofs.YtlaebpebgjaehaaDoor
/- THE CELL 'sum', in the pinned program and in every row, IS THE sha256 OF THE DUMP (.gsa) THAT YtlaebpebgjaehaaDoorProg.lean LOADS. Nothing in Lean hashes anything: it is a label: what it is worth is what the hold of that sum in a sandbox is worth. -/
noncomputable def Tryd.pinned : Pinned := { name := "ytlaebpebgjaehaadoor", sum := "d3b0ca461851583c93d6c8b7cf06a4b146a6effb4a28fa0db966f4dc1d418bd2", checked := Tryd.checked }
namespace Rows
def none {H : Type} : Left H := { results := [], args := [] }

/- WHAT THE LISTED PACKAGE-LEVEL VARIABLES READ AS WHEN THE CALL BEGINS. Each datum BY PROGRAM (the guide's laid-datum.mjs) off the statement by which the dump's own 'gosem.cut.vars' lays the variable. In a bare row this is a premise. The card (YtlaebpebgjaehaaDoorCards.lean) ties it to the program's text. -/
def laid_signet_blake_orders {H : Type} : DataW H := .agg [.agg [.lit (.int .i64 0), .lit (.int .i64 1), .lit (.int .i64 2), .lit (.int .i64 3), .lit (.int .i64 4), .lit (.int .i64 5), .lit (.int .i64 6), .lit (.int .i64 7), .lit (.int .i64 8), .lit (.int .i64 9), .lit (.int .i64 10), .lit (.int .i64 11), .lit (.int .i64 12), .lit (.int .i64 13), .lit (.int .i64 14), .lit (.int .i64 15)], .agg [.lit (.int .i64 14), .lit (.int .i64 10), .lit (.int .i64 4), .lit (.int .i64 8), .lit (.int .i64 9), .lit (.int .i64 15), .lit (.int .i64 13), .lit (.int .i64 6), .lit (.int .i64 1), .lit (.int .i64 12), .lit (.int .i64 0), .lit (.int .i64 2), .lit (.int .i64 11), .lit (.int .i64 7), .lit (.int .i64 5), .lit (.int .i64 3)], .agg [.lit (.int .i64 11), .lit (.int .i64 8), .lit (.int .i64 12), .lit (.int .i64 0), .lit (.int .i64 5), .lit (.int .i64 2), .lit (.int .i64 15), .lit (.int .i64 13), .lit (.int .i64 10), .lit (.int .i64 14), .lit (.int .i64 3), .lit (.int .i64 6), .lit (.int .i64 7), .lit (.int .i64 1), .lit (.int .i64 9), .lit (.int .i64 4)], .agg [.lit (.int .i64 7), .lit (.int .i64 9), .lit (.int .i64 3), .lit (.int .i64 1), .lit (.int .i64 13), .lit (.int .i64 12), .lit (.int .i64 11), .lit (.int .i64 14), .lit (.int .i64 2), .lit (.int .i64 6), .lit (.int .i64 5), .lit (.int .i64 10), .lit (.int .i64 4), .lit (.int .i64 0), .lit (.int .i64 15), .lit (.int .i64 8)], .agg [.lit (.int .i64 9), .lit (.int .i64 0), .lit (.int .i64 5), .lit (.int .i64 7), .lit (.int .i64 2), .lit (.int .i64 4), .lit (.int .i64 10), .lit (.int .i64 15), .lit (.int .i64 14), .lit (.int .i64 1), .lit (.int .i64 11), .lit (.int .i64 12), .lit (.int .i64 6), .lit (.int .i64 8), .lit (.int .i64 3), .lit (.int .i64 13)], .agg [.lit (.int .i64 2), .lit (.int .i64 12), .lit (.int .i64 6), .lit (.int .i64 10), .lit (.int .i64 0), .lit (.int .i64 11), .lit (.int .i64 8), .lit (.int .i64 3), .lit (.int .i64 4), .lit (.int .i64 13), .lit (.int .i64 7), .lit (.int .i64 5), .lit (.int .i64 15), .lit (.int .i64 14), .lit (.int .i64 1), .lit (.int .i64 9)], .agg [.lit (.int .i64 12), .lit (.int .i64 5), .lit (.int .i64 1), .lit (.int .i64 15), .lit (.int .i64 14), .lit (.int .i64 13), .lit (.int .i64 4), .lit (.int .i64 10), .lit (.int .i64 0), .lit (.int .i64 7), .lit (.int .i64 6), .lit (.int .i64 3), .lit (.int .i64 9), .lit (.int .i64 2), .lit (.int .i64 8), .lit (.int .i64 11)], .agg [.lit (.int .i64 13), .lit (.int .i64 11), .lit (.int .i64 7), .lit (.int .i64 14), .lit (.int .i64 12), .lit (.int .i64 1), .lit (.int .i64 3), .lit (.int .i64 9), .lit (.int .i64 5), .lit (.int .i64 0), .lit (.int .i64 15), .lit (.int .i64 4), .lit (.int .i64 8), .lit (.int .i64 6), .lit (.int .i64 2), .lit (.int .i64 10)], .agg [.lit (.int .i64 6), .lit (.int .i64 15), .lit (.int .i64 14), .lit (.int .i64 9), .lit (.int .i64 11), .lit (.int .i64 3), .lit (.int .i64 0), .lit (.int .i64 8), .lit (.int .i64 12), .lit (.int .i64 2), .lit (.int .i64 13), .lit (.int .i64 7), .lit (.int .i64 1), .lit (.int .i64 4), .lit (.int .i64 10), .lit (.int .i64 5)], .agg [.lit (.int .i64 10), .lit (.int .i64 2), .lit (.int .i64 8), .lit (.int .i64 4), .lit (.int .i64 7), .lit (.int .i64 6), .lit (.int .i64 1), .lit (.int .i64 5), .lit (.int .i64 15), .lit (.int .i64 11), .lit (.int .i64 9), .lit (.int .i64 14), .lit (.int .i64 3), .lit (.int .i64 12), .lit (.int .i64 13), .lit (.int .i64 0)]]
def laid_signet_signetref_iv {H : Type} : DataW H := .agg [.lit (.int .u32 1779033703), .lit (.int .u32 3144134277), .lit (.int .u32 1013904242), .lit (.int .u32 2773480762), .lit (.int .u32 1359893119), .lit (.int .u32 2600822924), .lit (.int .u32 528734635), .lit (.int .u32 1541459225)]

/-- 'signetlaw.BlakeAdds': WHATEVER THE INPUT: true; the input reads as it did. -/
def blakeAddsSpec : ChangeSpec := { name := "blakeAdds", fn := fun _ => fun
  | [d1, d2] => { results := [.lit (.bool true)], args := [d1, d2] }
  | _ => none }
def blakeAddsRow : OpenClaim := { program := "ytlaebpebgjaehaadoor", sum := "d3b0ca461851583c93d6c8b7cf06a4b146a6effb4a28fa0db966f4dc1d418bd2", func := "signet/signetlaw.BlakeAdds", spec := "blakeAdds", unfollowed := true, recurses := true, named := ["signet/blake.orders", "signet/signetref.iv"], apart := false, laid := [("signet/blake.orders", laid_signet_blake_orders), ("signet/signetref.iv", laid_signet_signetref_iv)] }
def BlakeAddsSaid : Prop := blakeAddsRow.holds Tryd.pinned (OpenSpec.ofChange blakeAddsSpec)

/-- ITS FALSE NEIGHBOUR: 'it returns false'. Refute it at one input. -/
def blakeAddsWrong : ChangeSpec := { name := "blakeAdds", fn := fun _ => fun
  | [d1, d2] => { results := [.lit (.bool false)], args := [d1, d2] }
  | _ => none }
def BlakeAddsWrongFalsely : Prop := blakeAddsRow.holds Tryd.pinned (OpenSpec.ofChange blakeAddsWrong)

/-- 'signetlaw.BlakeEnds': WHATEVER THE INPUT: true; the input reads as it did. -/
def blakeEndsSpec : ChangeSpec := { name := "blakeEnds", fn := fun _ => fun
  | [d] => { results := [.lit (.bool true)], args := [d] }
  | _ => none }
def blakeEndsRow : OpenClaim := { program := "ytlaebpebgjaehaadoor", sum := "d3b0ca461851583c93d6c8b7cf06a4b146a6effb4a28fa0db966f4dc1d418bd2", func := "signet/signetlaw.BlakeEnds", spec := "blakeEnds", unfollowed := true, recurses := true, named := ["signet/blake.orders", "signet/signetref.iv"], apart := false, laid := [("signet/blake.orders", laid_signet_blake_orders), ("signet/signetref.iv", laid_signet_signetref_iv)] }
def BlakeEndsSaid : Prop := blakeEndsRow.holds Tryd.pinned (OpenSpec.ofChange blakeEndsSpec)

/-- ITS FALSE NEIGHBOUR: 'it returns false'. Refute it at one input. -/
def blakeEndsWrong : ChangeSpec := { name := "blakeEnds", fn := fun _ => fun
  | [d] => { results := [.lit (.bool false)], args := [d] }
  | _ => none }
def BlakeEndsWrongFalsely : Prop := blakeEndsRow.holds Tryd.pinned (OpenSpec.ofChange blakeEndsWrong)

/-- 'signetlaw.BlakeSums': WHATEVER THE INPUT: true; the input reads as it did. -/
def blakeSumsSpec : ChangeSpec := { name := "blakeSums", fn := fun _ => fun
  | [d] => { results := [.lit (.bool true)], args := [d] }
  | _ => none }
def blakeSumsRow : OpenClaim := { program := "ytlaebpebgjaehaadoor", sum := "d3b0ca461851583c93d6c8b7cf06a4b146a6effb4a28fa0db966f4dc1d418bd2", func := "signet/signetlaw.BlakeSums", spec := "blakeSums", unfollowed := true, recurses := true, named := ["signet/blake.orders", "signet/signetref.iv"], apart := false, laid := [("signet/blake.orders", laid_signet_blake_orders), ("signet/signetref.iv", laid_signet_signetref_iv)] }
def BlakeSumsSaid : Prop := blakeSumsRow.holds Tryd.pinned (OpenSpec.ofChange blakeSumsSpec)

/-- ITS FALSE NEIGHBOUR: 'it returns false'. Refute it at one input. -/
def blakeSumsWrong : ChangeSpec := { name := "blakeSums", fn := fun _ => fun
  | [d] => { results := [.lit (.bool false)], args := [d] }
  | _ => none }
def BlakeSumsWrongFalsely : Prop := blakeSumsRow.holds Tryd.pinned (OpenSpec.ofChange blakeSumsWrong)

/-- 'signetkeep.BlakeParts': WHATEVER THE INPUT: true; the input reads as it did. -/
def blakePartsSpec : ChangeSpec := { name := "blakeParts", fn := fun _ => fun
  | [d1, d2, d3] => { results := [.lit (.bool true)], args := [d1, d2, d3] }
  | _ => none }
def blakePartsRow : OpenClaim := { program := "ytlaebpebgjaehaadoor", sum := "d3b0ca461851583c93d6c8b7cf06a4b146a6effb4a28fa0db966f4dc1d418bd2", func := "signet/signetkeep.BlakeParts", spec := "blakeParts", unfollowed := true, recurses := true, named := ["signet/blake.orders"], apart := false, laid := [("signet/blake.orders", laid_signet_blake_orders)] }
def BlakePartsSaid : Prop := blakePartsRow.holds Tryd.pinned (OpenSpec.ofChange blakePartsSpec)

/-- ITS FALSE NEIGHBOUR: 'it returns false'. Refute it at one input. -/
def blakePartsWrong : ChangeSpec := { name := "blakeParts", fn := fun _ => fun
  | [d1, d2, d3] => { results := [.lit (.bool false)], args := [d1, d2, d3] }
  | _ => none }
def BlakePartsWrongFalsely : Prop := blakePartsRow.holds Tryd.pinned (OpenSpec.ofChange blakePartsWrong)

/-- 'signetkeep.BlakeKnown': WHATEVER THE INPUT: true; the input reads as it did. -/
def blakeKnownSpec : ChangeSpec := { name := "blakeKnown", fn := fun _ => fun
  | [d] => { results := [.lit (.bool true)], args := [d] }
  | _ => none }
def blakeKnownRow : OpenClaim := { program := "ytlaebpebgjaehaadoor", sum := "d3b0ca461851583c93d6c8b7cf06a4b146a6effb4a28fa0db966f4dc1d418bd2", func := "signet/signetkeep.BlakeKnown", spec := "blakeKnown", unfollowed := true, recurses := true, named := ["signet/blake.orders"], apart := false, laid := [("signet/blake.orders", laid_signet_blake_orders)] }
def BlakeKnownSaid : Prop := blakeKnownRow.holds Tryd.pinned (OpenSpec.ofChange blakeKnownSpec)

/-- ITS FALSE NEIGHBOUR: 'it returns false'. Refute it at one input. -/
def blakeKnownWrong : ChangeSpec := { name := "blakeKnown", fn := fun _ => fun
  | [d] => { results := [.lit (.bool false)], args := [d] }
  | _ => none }
def BlakeKnownWrongFalsely : Prop := blakeKnownRow.holds Tryd.pinned (OpenSpec.ofChange blakeKnownWrong)

/- THE SECOND FORM. 'bulk': how many values and letters a reading holds, each counted each time it is reached (what is shared counts as often as it is met; a slice's spare places count too). A statement '..UptoSaid' is the law's where the arguments, and the package variables that the reading takes, are together of bulk at most 1048576: NARROWER than '..Said'. Prove '..Said' where nothing that the law and all that it calls make is longer than what came in: it says more and counts as full. Else prove '..UptoSaid'. A law counts once. -/
mutual
def uptoBulk {H : Type} : DataW H → Nat
  | .lit (.string bytes) => bytes.length + 1
  | .lit _ => 1
  | .nil => 1
  | .ptr d => uptoBulk d + 1
  | .slice elems spare => uptoBulkAll elems + uptoBulkAll spare + 1
  | .agg parts => uptoBulkAll parts + 1
  | .iface _ d => uptoBulk d + 1
  | .map entries => uptoBulkEntries entries + 1
  | .held _ => 1
def uptoBulkAll {H : Type} : List (DataW H) → Nat
  | [] => 0
  | d :: r => uptoBulk d + uptoBulkAll r
def uptoBulkEntries {H : Type} : List (Lit × DataW H) → Nat
  | [] => 0
  | x :: r => uptoBulkEntry x + uptoBulkEntries r
def uptoBulkEntry {H : Type} : Lit × DataW H → Nat
  | (.string bytes, d) => bytes.length + uptoBulk d + 1
  | (_, d) => uptoBulk d + 1
 end
def uptoSmall : (H : Type) → List (DataW H) → Bool := fun _ ds => decide (uptoBulkAll ds ≤ 1048576)
def OpenSpec.upto (s : _root_.Go.ChangeSpec) : _root_.Go.OpenSpec := { _root_.Go.OpenSpec.ofChange s with cond := some uptoSmall }

/-- 'signetlaw.BlakeAdds', WHERE WHAT IT READS IS OF BULK AT MOST 1048576: true; the input reads as it did. -/
def blakeAddsUptoRow : OpenClaim := { program := "ytlaebpebgjaehaadoor", sum := "d3b0ca461851583c93d6c8b7cf06a4b146a6effb4a28fa0db966f4dc1d418bd2", func := "signet/signetlaw.BlakeAdds", spec := "blakeAdds", unfollowed := true, recurses := true, named := ["signet/blake.orders", "signet/signetref.iv"], apart := false, laid := [("signet/blake.orders", laid_signet_blake_orders), ("signet/signetref.iv", laid_signet_signetref_iv)], narrowed := true }
def BlakeAddsUptoSaid : Prop := blakeAddsUptoRow.holds Tryd.pinned (OpenSpec.upto blakeAddsSpec)

/-- 'signetlaw.BlakeEnds', WHERE WHAT IT READS IS OF BULK AT MOST 1048576: true; the input reads as it did. -/
def blakeEndsUptoRow : OpenClaim := { program := "ytlaebpebgjaehaadoor", sum := "d3b0ca461851583c93d6c8b7cf06a4b146a6effb4a28fa0db966f4dc1d418bd2", func := "signet/signetlaw.BlakeEnds", spec := "blakeEnds", unfollowed := true, recurses := true, named := ["signet/blake.orders", "signet/signetref.iv"], apart := false, laid := [("signet/blake.orders", laid_signet_blake_orders), ("signet/signetref.iv", laid_signet_signetref_iv)], narrowed := true }
def BlakeEndsUptoSaid : Prop := blakeEndsUptoRow.holds Tryd.pinned (OpenSpec.upto blakeEndsSpec)

/-- 'signetlaw.BlakeSums', WHERE WHAT IT READS IS OF BULK AT MOST 1048576: true; the input reads as it did. -/
def blakeSumsUptoRow : OpenClaim := { program := "ytlaebpebgjaehaadoor", sum := "d3b0ca461851583c93d6c8b7cf06a4b146a6effb4a28fa0db966f4dc1d418bd2", func := "signet/signetlaw.BlakeSums", spec := "blakeSums", unfollowed := true, recurses := true, named := ["signet/blake.orders", "signet/signetref.iv"], apart := false, laid := [("signet/blake.orders", laid_signet_blake_orders), ("signet/signetref.iv", laid_signet_signetref_iv)], narrowed := true }
def BlakeSumsUptoSaid : Prop := blakeSumsUptoRow.holds Tryd.pinned (OpenSpec.upto blakeSumsSpec)

/-- 'signetkeep.BlakeParts', WHERE WHAT IT READS IS OF BULK AT MOST 1048576: true; the input reads as it did. -/
def blakePartsUptoRow : OpenClaim := { program := "ytlaebpebgjaehaadoor", sum := "d3b0ca461851583c93d6c8b7cf06a4b146a6effb4a28fa0db966f4dc1d418bd2", func := "signet/signetkeep.BlakeParts", spec := "blakeParts", unfollowed := true, recurses := true, named := ["signet/blake.orders"], apart := false, laid := [("signet/blake.orders", laid_signet_blake_orders)], narrowed := true }
def BlakePartsUptoSaid : Prop := blakePartsUptoRow.holds Tryd.pinned (OpenSpec.upto blakePartsSpec)

/-- 'signetkeep.BlakeKnown', WHERE WHAT IT READS IS OF BULK AT MOST 1048576: true; the input reads as it did. -/
def blakeKnownUptoRow : OpenClaim := { program := "ytlaebpebgjaehaadoor", sum := "d3b0ca461851583c93d6c8b7cf06a4b146a6effb4a28fa0db966f4dc1d418bd2", func := "signet/signetkeep.BlakeKnown", spec := "blakeKnown", unfollowed := true, recurses := true, named := ["signet/blake.orders"], apart := false, laid := [("signet/blake.orders", laid_signet_blake_orders)], narrowed := true }
def BlakeKnownUptoSaid : Prop := blakeKnownUptoRow.holds Tryd.pinned (OpenSpec.upto blakeKnownSpec)

end Rows
end Go.Proofs.YtlaebpebgjaehaaDoor
