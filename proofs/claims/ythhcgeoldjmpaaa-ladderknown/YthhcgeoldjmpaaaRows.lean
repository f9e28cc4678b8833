/-
  No cell of these rows narrows 'for every input' (looked for: loops, veiled, ifaces, maps, wideKeys, modest, calm, conditions, laid).
  DERIVED. THE GIVEN ROWS OF THIS SEAT. 4 by the template 'for every input the law returns true; each argument reads behind the call as it read before'; 0 by the template 'total and deterministic' (their statements: YthhcgeoldjmpaaaTotals.lean).
  GIVEN WITH THE SEED: the statements are not yours to turn. If you find one false, say at which input.
  Laid BY PROGRAM, IN A SANDBOX (cutbox-rows.mjs): the forced cells as the released guide's own fill.sh prints them over the translation 1fc884775c112274… (all of the seat's roots in one cut). By AI agents, Wed Nov 11 2026. No macro, syntax, notation, axiom, sorry.
-/
import Derived.Test.YthhcgeoldjmpaaaChecked
import GoSem.Claim
import GoSem.ClaimJoined
import GoSem.ClaimMapViews
import Derived.JoinedTies
import Derived.KernelRfl
namespace Go.Proofs.Ythhcgeoldjmpaaa
/- THE CELL 'sum', in the pinned program and in every row, IS THE sha256 OF THE DUMP (.gsa) THAT YthhcgeoldjmpaaaProg.lean LOADS. Nothing in Lean hashes anything: it is a label: what it is worth is what the hold of that sum in a sandbox is worth. -/
noncomputable def Try.pinned : Pinned := { name := "ythhcgeoldjmpaaa", sum := "1fc884775c1122746b76665e6e0473464292aec4622dd3c913cb075a464e407d", checked := Try.checked }
namespace Rows
def none {H : Type} : Left H := { results := [], args := [] }

/-- 'signetkeep.DhTurns': WHATEVER THE INPUT: true; the input reads as it did. -/
def dhTurnsSpec : ChangeSpec := { name := "dhTurns", fn := fun _ => fun
  | [d1, d2, d3] => { results := [.lit (.bool true)], args := [d1, d2, d3] }
  | _ => none }
def dhTurnsRow : OpenClaim := { program := "ythhcgeoldjmpaaa", sum := "1fc884775c1122746b76665e6e0473464292aec4622dd3c913cb075a464e407d", func := "signet/signetkeep.DhTurns", spec := "dhTurns", inPlace := ["math/bits.Add64", "math/bits.Sub64"], apart := false }
def DhTurnsSaid : Prop := dhTurnsRow.holds Try.pinned (OpenSpec.ofChange dhTurnsSpec)

/-- ITS FALSE NEIGHBOUR: 'it returns false'. Refute it at one input. -/
def dhTurnsWrong : ChangeSpec := { name := "dhTurns", fn := fun _ => fun
  | [d1, d2, d3] => { results := [.lit (.bool false)], args := [d1, d2, d3] }
  | _ => none }
def DhTurnsWrongFalsely : Prop := dhTurnsRow.holds Try.pinned (OpenSpec.ofChange dhTurnsWrong)

/-- 'signetkeep.KeysAgree': WHATEVER THE INPUT: true; the input reads as it did. -/
def keysAgreeSpec : ChangeSpec := { name := "keysAgree", fn := fun _ => fun
  | [d1, d2] => { results := [.lit (.bool true)], args := [d1, d2] }
  | _ => none }
def keysAgreeRow : OpenClaim := { program := "ythhcgeoldjmpaaa", sum := "1fc884775c1122746b76665e6e0473464292aec4622dd3c913cb075a464e407d", func := "signet/signetkeep.KeysAgree", spec := "keysAgree", inPlace := ["math/bits.Add64", "math/bits.Sub64"], apart := false }
def KeysAgreeSaid : Prop := keysAgreeRow.holds Try.pinned (OpenSpec.ofChange keysAgreeSpec)

/-- ITS FALSE NEIGHBOUR: 'it returns false'. Refute it at one input. -/
def keysAgreeWrong : ChangeSpec := { name := "keysAgree", fn := fun _ => fun
  | [d1, d2] => { results := [.lit (.bool false)], args := [d1, d2] }
  | _ => none }
def KeysAgreeWrongFalsely : Prop := keysAgreeRow.holds Try.pinned (OpenSpec.ofChange keysAgreeWrong)

/-- 'signetkeep.ClampStays': WHATEVER THE INPUT: true; the input reads as it did. -/
def clampStaysSpec : ChangeSpec := { name := "clampStays", fn := fun _ => fun
  | [d1, d2] => { results := [.lit (.bool true)], args := [d1, d2] }
  | _ => none }
def clampStaysRow : OpenClaim := { program := "ythhcgeoldjmpaaa", sum := "1fc884775c1122746b76665e6e0473464292aec4622dd3c913cb075a464e407d", func := "signet/signetkeep.ClampStays", spec := "clampStays", inPlace := ["math/bits.Add64", "math/bits.Sub64"], apart := false }
def ClampStaysSaid : Prop := clampStaysRow.holds Try.pinned (OpenSpec.ofChange clampStaysSpec)

/-- ITS FALSE NEIGHBOUR: 'it returns false'. Refute it at one input. -/
def clampStaysWrong : ChangeSpec := { name := "clampStays", fn := fun _ => fun
  | [d1, d2] => { results := [.lit (.bool false)], args := [d1, d2] }
  | _ => none }
def ClampStaysWrongFalsely : Prop := clampStaysRow.holds Try.pinned (OpenSpec.ofChange clampStaysWrong)

/-- 'signetkeep.LadderKnown': WHATEVER THE INPUT: true; the input reads as it did. -/
def ladderKnownSpec : ChangeSpec := { name := "ladderKnown", fn := fun _ => fun
  | [d] => { results := [.lit (.bool true)], args := [d] }
  | _ => none }
def ladderKnownRow : OpenClaim := { program := "ythhcgeoldjmpaaa", sum := "1fc884775c1122746b76665e6e0473464292aec4622dd3c913cb075a464e407d", func := "signet/signetkeep.LadderKnown", spec := "ladderKnown", inPlace := ["math/bits.Add64", "math/bits.Sub64"], apart := false }
def LadderKnownSaid : Prop := ladderKnownRow.holds Try.pinned (OpenSpec.ofChange ladderKnownSpec)

/-- ITS FALSE NEIGHBOUR: 'it returns false'. Refute it at one input. -/
def ladderKnownWrong : ChangeSpec := { name := "ladderKnown", fn := fun _ => fun
  | [d] => { results := [.lit (.bool false)], args := [d] }
  | _ => none }
def LadderKnownWrongFalsely : Prop := ladderKnownRow.holds Try.pinned (OpenSpec.ofChange ladderKnownWrong)

/- THE SECOND FORM. 'bulk': how many values and letters a reading holds, each counted each time it is reached (what is shared counts as often as it is met; a slice's spare places count too). A statement '..UptoSaid' is the law's where the arguments, and the package variables that the reading takes, are together of bulk at most 1048576: NARROWER than '..Said'. Prove '..Said' where nothing that the law and all that it calls make is longer than what came in: it says more and counts as full. Else prove '..UptoSaid'. A law counts once. -/
mutual
def uptoBulk {H : Type} : DataW H → Nat
  | .lit (.string bytes) => bytes.length + 1
  | .lit _ => 1
  | .nil => 1
  | .ptr d => uptoBulk d + 1
  | .slice elems spare => uptoBulkAll elems + uptoBulkAll spare + 1
  | .agg parts => uptoBulkAll parts + 1
  | .iface _ d => uptoBulk d + 1
  | .map entries => uptoBulkEntries entries + 1
  | .held _ => 1
def uptoBulkAll {H : Type} : List (DataW H) → Nat
  | [] => 0
  | d :: r => uptoBulk d + uptoBulkAll r
def uptoBulkEntries {H : Type} : List (Lit × DataW H) → Nat
  | [] => 0
  | x :: r => uptoBulkEntry x + uptoBulkEntries r
def uptoBulkEntry {H : Type} : Lit × DataW H → Nat
  | (.string bytes, d) => bytes.length + uptoBulk d + 1
  | (_, d) => uptoBulk d + 1
 end
def uptoSmall : (H : Type) → List (DataW H) → Bool := fun _ ds => decide (uptoBulkAll ds ≤ 1048576)
def OpenSpec.upto (s : _root_.Go.ChangeSpec) : _root_.Go.OpenSpec := { _root_.Go.OpenSpec.ofChange s with cond := some uptoSmall }

/-- 'signetkeep.DhTurns', WHERE WHAT IT READS IS OF BULK AT MOST 1048576: true; the input reads as it did. -/
def dhTurnsUptoRow : OpenClaim := { program := "ythhcgeoldjmpaaa", sum := "1fc884775c1122746b76665e6e0473464292aec4622dd3c913cb075a464e407d", func := "signet/signetkeep.DhTurns", spec := "dhTurns", inPlace := ["math/bits.Add64", "math/bits.Sub64"], apart := false, narrowed := true }
def DhTurnsUptoSaid : Prop := dhTurnsUptoRow.holds Try.pinned (OpenSpec.upto dhTurnsSpec)

/-- 'signetkeep.KeysAgree', WHERE WHAT IT READS IS OF BULK AT MOST 1048576: true; the input reads as it did. -/
def keysAgreeUptoRow : OpenClaim := { program := "ythhcgeoldjmpaaa", sum := "1fc884775c1122746b76665e6e0473464292aec4622dd3c913cb075a464e407d", func := "signet/signetkeep.KeysAgree", spec := "keysAgree", inPlace := ["math/bits.Add64", "math/bits.Sub64"], apart := false, narrowed := true }
def KeysAgreeUptoSaid : Prop := keysAgreeUptoRow.holds Try.pinned (OpenSpec.upto keysAgreeSpec)

/-- 'signetkeep.ClampStays', WHERE WHAT IT READS IS OF BULK AT MOST 1048576: true; the input reads as it did. -/
def clampStaysUptoRow : OpenClaim := { program := "ythhcgeoldjmpaaa", sum := "1fc884775c1122746b76665e6e0473464292aec4622dd3c913cb075a464e407d", func := "signet/signetkeep.ClampStays", spec := "clampStays", inPlace := ["math/bits.Add64", "math/bits.Sub64"], apart := false, narrowed := true }
def ClampStaysUptoSaid : Prop := clampStaysUptoRow.holds Try.pinned (OpenSpec.upto clampStaysSpec)

/-- 'signetkeep.LadderKnown', WHERE WHAT IT READS IS OF BULK AT MOST 1048576: true; the input reads as it did. -/
def ladderKnownUptoRow : OpenClaim := { program := "ythhcgeoldjmpaaa", sum := "1fc884775c1122746b76665e6e0473464292aec4622dd3c913cb075a464e407d", func := "signet/signetkeep.LadderKnown", spec := "ladderKnown", inPlace := ["math/bits.Add64", "math/bits.Sub64"], apart := false, narrowed := true }
def LadderKnownUptoSaid : Prop := ladderKnownUptoRow.holds Try.pinned (OpenSpec.upto ladderKnownSpec)

end Rows
end Go.Proofs.Ythhcgeoldjmpaaa
