/-
  NARROWER THAN 'FOR EVERY INPUT', by the rows' own cells (each row's printed sentence says how): HiddenJust: laid · HiddenLater: laid.
  DERIVED. THE GIVEN ROWS OF THIS SEAT. 2 by the template 'for every input the law returns true; each argument reads behind the call as it read before'; 0 by the template 'total and deterministic' (their statements: YtfldnikepdbgkaaDoorTotals.lean).
  GIVEN WITH THE SEED: the statements are not yours to turn. If you find one false, say at which input.
  Laid BY PROGRAM, IN A SANDBOX (cutbox-rows.mjs): the forced cells as the released guide's own fill.sh prints them over the translation e69cd933e5052f01… (all of the seat's roots in one cut). By AI agents, Wed Nov 11 2026. No macro, syntax, notation, axiom, sorry.
-/
import Derived.Test.YtfldnikepdbgkaaDoorChecked
import GoSem.Claim
import GoSem.ClaimJoined
import GoSem.ClaimMapViews
import Derived.JoinedTies
import Derived.KernelRfl
namespace Go.Proofs.YtfldnikepdbgkaaDoor
/- THE CELL 'sum', in the pinned program and in every row, IS THE sha256 OF THE DUMP (.gsa) THAT YtfldnikepdbgkaaDoorProg.lean LOADS. Nothing in Lean hashes anything: it is a label: what it is worth is what the hold of that sum in a sandbox is worth. -/
noncomputable def Tryd.pinned : Pinned := { name := "ytfldnikepdbgkaadoor", sum := "e69cd933e5052f013ca4c8d41380e8d7ff9b1dbb2c12d969590fcd072af90409", checked := Tryd.checked }
namespace Rows
def none {H : Type} : Left H := { results := [], args := [] }

/- WHAT THE LISTED PACKAGE-LEVEL VARIABLES READ AS WHEN THE CALL BEGINS. Each datum BY PROGRAM (the guide's laid-datum.mjs) off the statement by which the dump's own 'gosem.cut.vars' lays the variable. In a bare row this is a premise. The card (YtfldnikepdbgkaaDoorCards.lean) ties it to the program's text. -/
def laid_signet_signetkeep_bases {H : Type} : DataW H := .agg [.lit (.string [78, 78]), .lit (.string [78, 75]), .lit (.string [88, 88]), .lit (.string [73, 75]), .lit (.string [88, 75]), .lit (.string [75, 75])]

/-- 'signetkeep.HiddenJust': WHATEVER THE INPUT: true; the input reads as it did. -/
def hiddenJustSpec : ChangeSpec := { name := "hiddenJust", fn := fun _ => fun
  | [d1, d2, d3, d4] => { results := [.lit (.bool true)], args := [d1, d2, d3, d4] }
  | _ => none }
def hiddenJustRow : OpenClaim := { program := "ytfldnikepdbgkaadoor", sum := "e69cd933e5052f013ca4c8d41380e8d7ff9b1dbb2c12d969590fcd072af90409", func := "signet/signetkeep.HiddenJust", spec := "hiddenJust", unfollowed := true, recurses := true, named := ["signet/signetkeep.bases"], apart := false, laid := [("signet/signetkeep.bases", laid_signet_signetkeep_bases)] }
def HiddenJustSaid : Prop := hiddenJustRow.holds Tryd.pinned (OpenSpec.ofChange hiddenJustSpec)

/-- ITS FALSE NEIGHBOUR: 'it returns false'. Refute it at one input. -/
def hiddenJustWrong : ChangeSpec := { name := "hiddenJust", fn := fun _ => fun
  | [d1, d2, d3, d4] => { results := [.lit (.bool false)], args := [d1, d2, d3, d4] }
  | _ => none }
def HiddenJustWrongFalsely : Prop := hiddenJustRow.holds Tryd.pinned (OpenSpec.ofChange hiddenJustWrong)

/-- 'signetkeep.HiddenLater': WHATEVER THE INPUT: true; the input reads as it did. -/
def hiddenLaterSpec : ChangeSpec := { name := "hiddenLater", fn := fun _ => fun
  | [d1, d2, d3, d4, d5] => { results := [.lit (.bool true)], args := [d1, d2, d3, d4, d5] }
  | _ => none }
def hiddenLaterRow : OpenClaim := { program := "ytfldnikepdbgkaadoor", sum := "e69cd933e5052f013ca4c8d41380e8d7ff9b1dbb2c12d969590fcd072af90409", func := "signet/signetkeep.HiddenLater", spec := "hiddenLater", unfollowed := true, recurses := true, named := ["signet/signetkeep.bases"], apart := false, laid := [("signet/signetkeep.bases", laid_signet_signetkeep_bases)] }
def HiddenLaterSaid : Prop := hiddenLaterRow.holds Tryd.pinned (OpenSpec.ofChange hiddenLaterSpec)

/-- ITS FALSE NEIGHBOUR: 'it returns false'. Refute it at one input. -/
def hiddenLaterWrong : ChangeSpec := { name := "hiddenLater", fn := fun _ => fun
  | [d1, d2, d3, d4, d5] => { results := [.lit (.bool false)], args := [d1, d2, d3, d4, d5] }
  | _ => none }
def HiddenLaterWrongFalsely : Prop := hiddenLaterRow.holds Tryd.pinned (OpenSpec.ofChange hiddenLaterWrong)

/- THE SECOND FORM. 'bulk': how many values and letters a reading holds, each counted each time it is reached (what is shared counts as often as it is met; a slice's spare places count too). A statement '..UptoSaid' is the law's where the arguments, and the package variables that the reading takes, are together of bulk at most 1048576: NARROWER than '..Said'. Prove '..Said' where nothing that the law and all that it calls make is longer than what came in: it says more and counts as full. Else prove '..UptoSaid'. A law counts once. -/
mutual
def uptoBulk {H : Type} : DataW H → Nat
  | .lit (.string bytes) => bytes.length + 1
  | .lit _ => 1
  | .nil => 1
  | .ptr d => uptoBulk d + 1
  | .slice elems spare => uptoBulkAll elems + uptoBulkAll spare + 1
  | .agg parts => uptoBulkAll parts + 1
  | .iface _ d => uptoBulk d + 1
  | .map entries => uptoBulkEntries entries + 1
  | .held _ => 1
def uptoBulkAll {H : Type} : List (DataW H) → Nat
  | [] => 0
  | d :: r => uptoBulk d + uptoBulkAll r
def uptoBulkEntries {H : Type} : List (Lit × DataW H) → Nat
  | [] => 0
  | x :: r => uptoBulkEntry x + uptoBulkEntries r
def uptoBulkEntry {H : Type} : Lit × DataW H → Nat
  | (.string bytes, d) => bytes.length + uptoBulk d + 1
  | (_, d) => uptoBulk d + 1
 end
def uptoSmall : (H : Type) → List (DataW H) → Bool := fun _ ds => decide (uptoBulkAll ds ≤ 1048576)
def OpenSpec.upto (s : _root_.Go.ChangeSpec) : _root_.Go.OpenSpec := { _root_.Go.OpenSpec.ofChange s with cond := some uptoSmall }

/-- 'signetkeep.HiddenJust', WHERE WHAT IT READS IS OF BULK AT MOST 1048576: true; the input reads as it did. -/
def hiddenJustUptoRow : OpenClaim := { program := "ytfldnikepdbgkaadoor", sum := "e69cd933e5052f013ca4c8d41380e8d7ff9b1dbb2c12d969590fcd072af90409", func := "signet/signetkeep.HiddenJust", spec := "hiddenJust", unfollowed := true, recurses := true, named := ["signet/signetkeep.bases"], apart := false, laid := [("signet/signetkeep.bases", laid_signet_signetkeep_bases)], narrowed := true }
def HiddenJustUptoSaid : Prop := hiddenJustUptoRow.holds Tryd.pinned (OpenSpec.upto hiddenJustSpec)

/-- 'signetkeep.HiddenLater', WHERE WHAT IT READS IS OF BULK AT MOST 1048576: true; the input reads as it did. -/
def hiddenLaterUptoRow : OpenClaim := { program := "ytfldnikepdbgkaadoor", sum := "e69cd933e5052f013ca4c8d41380e8d7ff9b1dbb2c12d969590fcd072af90409", func := "signet/signetkeep.HiddenLater", spec := "hiddenLater", unfollowed := true, recurses := true, named := ["signet/signetkeep.bases"], apart := false, laid := [("signet/signetkeep.bases", laid_signet_signetkeep_bases)], narrowed := true }
def HiddenLaterUptoSaid : Prop := hiddenLaterUptoRow.holds Tryd.pinned (OpenSpec.upto hiddenLaterSpec)

end Rows
end Go.Proofs.YtfldnikepdbgkaaDoor
