/-
  No cell of these rows narrows 'for every input' (looked for: loops, veiled, ifaces, maps, wideKeys, modest, calm, conditions, laid).
  DERIVED. THE GIVEN ROWS OF THIS SEAT. 6 by the template 'for every input the law returns true; each argument reads behind the call as it read before'; 0 by the template 'total and deterministic' (their statements: YtmhpifphohcfmaaTotals.lean).
  GIVEN WITH THE SEED: the statements are not yours to turn. If you find one false, say at which input.
  Laid BY PROGRAM, IN A SANDBOX (cutbox-rows.mjs): the forced cells as the released guide's own fill.sh prints them over the translation ef0bcc876077fa2d… (all of the seat's roots in one cut). By AI agents, Wed Nov 11 2026. No macro, syntax, notation, axiom, sorry.
-/
import Derived.Test.YtmhpifphohcfmaaChecked
import GoSem.Claim
import GoSem.ClaimJoined
import GoSem.ClaimMapViews
import Derived.JoinedTies
import Derived.KernelRfl
namespace Go.Proofs.Ytmhpifphohcfmaa
/- THE CELL 'sum', in the pinned program and in every row, IS THE sha256 OF THE DUMP (.gsa) THAT YtmhpifphohcfmaaProg.lean LOADS. Nothing in Lean hashes anything: it is a label: what it is worth is what the hold of that sum in a sandbox is worth. -/
noncomputable def Try.pinned : Pinned := { name := "ytmhpifphohcfmaa", sum := "ef0bcc876077fa2d7980b3c348bc29da321cd99cc91801aaf1f7f970fa875553", checked := Try.checked }
namespace Rows
def none {H : Type} : Left H := { results := [], args := [] }

/-- 'signetlaw.CipherChecks': WHATEVER THE INPUT: true; the input reads as it did. -/
def cipherChecksSpec : ChangeSpec := { name := "cipherChecks", fn := fun _ => fun
  | [d1, d2] => { results := [.lit (.bool true)], args := [d1, d2] }
  | _ => none }
def cipherChecksRow : OpenClaim := { program := "ytmhpifphohcfmaa", sum := "ef0bcc876077fa2d7980b3c348bc29da321cd99cc91801aaf1f7f970fa875553", func := "signet/signetlaw.CipherChecks", spec := "cipherChecks", apart := false }
def CipherChecksSaid : Prop := cipherChecksRow.holds Try.pinned (OpenSpec.ofChange cipherChecksSpec)

/-- ITS FALSE NEIGHBOUR: 'it returns false'. Refute it at one input. -/
def cipherChecksWrong : ChangeSpec := { name := "cipherChecks", fn := fun _ => fun
  | [d1, d2] => { results := [.lit (.bool false)], args := [d1, d2] }
  | _ => none }
def CipherChecksWrongFalsely : Prop := cipherChecksRow.holds Try.pinned (OpenSpec.ofChange cipherChecksWrong)

/-- 'signetlaw.CipherSeals': WHATEVER THE INPUT: true; the input reads as it did. -/
def cipherSealsSpec : ChangeSpec := { name := "cipherSeals", fn := fun _ => fun
  | [d1, d2, d3] => { results := [.lit (.bool true)], args := [d1, d2, d3] }
  | _ => none }
def cipherSealsRow : OpenClaim := { program := "ytmhpifphohcfmaa", sum := "ef0bcc876077fa2d7980b3c348bc29da321cd99cc91801aaf1f7f970fa875553", func := "signet/signetlaw.CipherSeals", spec := "cipherSeals", inPlace := ["math/bits.Sub64", "math/bits.Add64"], unfollowed := true, recurses := true, apart := false }
def CipherSealsSaid : Prop := cipherSealsRow.holds Try.pinned (OpenSpec.ofChange cipherSealsSpec)

/-- ITS FALSE NEIGHBOUR: 'it returns false'. Refute it at one input. -/
def cipherSealsWrong : ChangeSpec := { name := "cipherSeals", fn := fun _ => fun
  | [d1, d2, d3] => { results := [.lit (.bool false)], args := [d1, d2, d3] }
  | _ => none }
def CipherSealsWrongFalsely : Prop := cipherSealsRow.holds Try.pinned (OpenSpec.ofChange cipherSealsWrong)

/-- 'signetlaw.CipherOpens': WHATEVER THE INPUT: true; the input reads as it did. -/
def cipherOpensSpec : ChangeSpec := { name := "cipherOpens", fn := fun _ => fun
  | [d1, d2, d3] => { results := [.lit (.bool true)], args := [d1, d2, d3] }
  | _ => none }
def cipherOpensRow : OpenClaim := { program := "ytmhpifphohcfmaa", sum := "ef0bcc876077fa2d7980b3c348bc29da321cd99cc91801aaf1f7f970fa875553", func := "signet/signetlaw.CipherOpens", spec := "cipherOpens", inPlace := ["math/bits.Sub64", "math/bits.Add64"], unfollowed := true, recurses := true, apart := false }
def CipherOpensSaid : Prop := cipherOpensRow.holds Try.pinned (OpenSpec.ofChange cipherOpensSpec)

/-- ITS FALSE NEIGHBOUR: 'it returns false'. Refute it at one input. -/
def cipherOpensWrong : ChangeSpec := { name := "cipherOpens", fn := fun _ => fun
  | [d1, d2, d3] => { results := [.lit (.bool false)], args := [d1, d2, d3] }
  | _ => none }
def CipherOpensWrongFalsely : Prop := cipherOpensRow.holds Try.pinned (OpenSpec.ofChange cipherOpensWrong)

/-- 'signetlaw.CipherRekeys': WHATEVER THE INPUT: true; the input reads as it did. -/
def cipherRekeysSpec : ChangeSpec := { name := "cipherRekeys", fn := fun _ => fun
  | [d] => { results := [.lit (.bool true)], args := [d] }
  | _ => none }
def cipherRekeysRow : OpenClaim := { program := "ytmhpifphohcfmaa", sum := "ef0bcc876077fa2d7980b3c348bc29da321cd99cc91801aaf1f7f970fa875553", func := "signet/signetlaw.CipherRekeys", spec := "cipherRekeys", inPlace := ["math/bits.Sub64", "math/bits.Add64"], unfollowed := true, recurses := true, apart := false }
def CipherRekeysSaid : Prop := cipherRekeysRow.holds Try.pinned (OpenSpec.ofChange cipherRekeysSpec)

/-- ITS FALSE NEIGHBOUR: 'it returns false'. Refute it at one input. -/
def cipherRekeysWrong : ChangeSpec := { name := "cipherRekeys", fn := fun _ => fun
  | [d] => { results := [.lit (.bool false)], args := [d] }
  | _ => none }
def CipherRekeysWrongFalsely : Prop := cipherRekeysRow.holds Try.pinned (OpenSpec.ofChange cipherRekeysWrong)

/-- 'signetkeep.CipherTalk': WHATEVER THE INPUT: true; the input reads as it did. -/
def cipherTalkSpec : ChangeSpec := { name := "cipherTalk", fn := fun _ => fun
  | [d1, d2, d3] => { results := [.lit (.bool true)], args := [d1, d2, d3] }
  | _ => none }
def cipherTalkRow : OpenClaim := { program := "ytmhpifphohcfmaa", sum := "ef0bcc876077fa2d7980b3c348bc29da321cd99cc91801aaf1f7f970fa875553", func := "signet/signetkeep.CipherTalk", spec := "cipherTalk", inPlace := ["math/bits.Sub64", "math/bits.Add64"], unfollowed := true, recurses := true, apart := false }
def CipherTalkSaid : Prop := cipherTalkRow.holds Try.pinned (OpenSpec.ofChange cipherTalkSpec)

/-- ITS FALSE NEIGHBOUR: 'it returns false'. Refute it at one input. -/
def cipherTalkWrong : ChangeSpec := { name := "cipherTalk", fn := fun _ => fun
  | [d1, d2, d3] => { results := [.lit (.bool false)], args := [d1, d2, d3] }
  | _ => none }
def CipherTalkWrongFalsely : Prop := cipherTalkRow.holds Try.pinned (OpenSpec.ofChange cipherTalkWrong)

/-- 'signetkeep.CipherEnds': WHATEVER THE INPUT: true; the input reads as it did. -/
def cipherEndsSpec : ChangeSpec := { name := "cipherEnds", fn := fun _ => fun
  | [d1, d2, d3] => { results := [.lit (.bool true)], args := [d1, d2, d3] }
  | _ => none }
def cipherEndsRow : OpenClaim := { program := "ytmhpifphohcfmaa", sum := "ef0bcc876077fa2d7980b3c348bc29da321cd99cc91801aaf1f7f970fa875553", func := "signet/signetkeep.CipherEnds", spec := "cipherEnds", inPlace := ["math/bits.Sub64", "math/bits.Add64"], unfollowed := true, recurses := true, apart := false }
def CipherEndsSaid : Prop := cipherEndsRow.holds Try.pinned (OpenSpec.ofChange cipherEndsSpec)

/-- ITS FALSE NEIGHBOUR: 'it returns false'. Refute it at one input. -/
def cipherEndsWrong : ChangeSpec := { name := "cipherEnds", fn := fun _ => fun
  | [d1, d2, d3] => { results := [.lit (.bool false)], args := [d1, d2, d3] }
  | _ => none }
def CipherEndsWrongFalsely : Prop := cipherEndsRow.holds Try.pinned (OpenSpec.ofChange cipherEndsWrong)

/- THE SECOND FORM. 'bulk': how many values and letters a reading holds, each counted each time it is reached (what is shared counts as often as it is met; a slice's spare places count too). A statement '..UptoSaid' is the law's where the arguments, and the package variables that the reading takes, are together of bulk at most 1048576: NARROWER than '..Said'. Prove '..Said' where nothing that the law and all that it calls make is longer than what came in: it says more and counts as full. Else prove '..UptoSaid'. A law counts once. -/
mutual
def uptoBulk {H : Type} : DataW H → Nat
  | .lit (.string bytes) => bytes.length + 1
  | .lit _ => 1
  | .nil => 1
  | .ptr d => uptoBulk d + 1
  | .slice elems spare => uptoBulkAll elems + uptoBulkAll spare + 1
  | .agg parts => uptoBulkAll parts + 1
  | .iface _ d => uptoBulk d + 1
  | .map entries => uptoBulkEntries entries + 1
  | .held _ => 1
def uptoBulkAll {H : Type} : List (DataW H) → Nat
  | [] => 0
  | d :: r => uptoBulk d + uptoBulkAll r
def uptoBulkEntries {H : Type} : List (Lit × DataW H) → Nat
  | [] => 0
  | x :: r => uptoBulkEntry x + uptoBulkEntries r
def uptoBulkEntry {H : Type} : Lit × DataW H → Nat
  | (.string bytes, d) => bytes.length + uptoBulk d + 1
  | (_, d) => uptoBulk d + 1
 end
def uptoSmall : (H : Type) → List (DataW H) → Bool := fun _ ds => decide (uptoBulkAll ds ≤ 1048576)
def OpenSpec.upto (s : _root_.Go.ChangeSpec) : _root_.Go.OpenSpec := { _root_.Go.OpenSpec.ofChange s with cond := some uptoSmall }

/-- 'signetlaw.CipherChecks', WHERE WHAT IT READS IS OF BULK AT MOST 1048576: true; the input reads as it did. -/
def cipherChecksUptoRow : OpenClaim := { program := "ytmhpifphohcfmaa", sum := "ef0bcc876077fa2d7980b3c348bc29da321cd99cc91801aaf1f7f970fa875553", func := "signet/signetlaw.CipherChecks", spec := "cipherChecks", apart := false, narrowed := true }
def CipherChecksUptoSaid : Prop := cipherChecksUptoRow.holds Try.pinned (OpenSpec.upto cipherChecksSpec)

/-- 'signetlaw.CipherSeals', WHERE WHAT IT READS IS OF BULK AT MOST 1048576: true; the input reads as it did. -/
def cipherSealsUptoRow : OpenClaim := { program := "ytmhpifphohcfmaa", sum := "ef0bcc876077fa2d7980b3c348bc29da321cd99cc91801aaf1f7f970fa875553", func := "signet/signetlaw.CipherSeals", spec := "cipherSeals", inPlace := ["math/bits.Sub64", "math/bits.Add64"], unfollowed := true, recurses := true, apart := false, narrowed := true }
def CipherSealsUptoSaid : Prop := cipherSealsUptoRow.holds Try.pinned (OpenSpec.upto cipherSealsSpec)

/-- 'signetlaw.CipherOpens', WHERE WHAT IT READS IS OF BULK AT MOST 1048576: true; the input reads as it did. -/
def cipherOpensUptoRow : OpenClaim := { program := "ytmhpifphohcfmaa", sum := "ef0bcc876077fa2d7980b3c348bc29da321cd99cc91801aaf1f7f970fa875553", func := "signet/signetlaw.CipherOpens", spec := "cipherOpens", inPlace := ["math/bits.Sub64", "math/bits.Add64"], unfollowed := true, recurses := true, apart := false, narrowed := true }
def CipherOpensUptoSaid : Prop := cipherOpensUptoRow.holds Try.pinned (OpenSpec.upto cipherOpensSpec)

/-- 'signetlaw.CipherRekeys', WHERE WHAT IT READS IS OF BULK AT MOST 1048576: true; the input reads as it did. -/
def cipherRekeysUptoRow : OpenClaim := { program := "ytmhpifphohcfmaa", sum := "ef0bcc876077fa2d7980b3c348bc29da321cd99cc91801aaf1f7f970fa875553", func := "signet/signetlaw.CipherRekeys", spec := "cipherRekeys", inPlace := ["math/bits.Sub64", "math/bits.Add64"], unfollowed := true, recurses := true, apart := false, narrowed := true }
def CipherRekeysUptoSaid : Prop := cipherRekeysUptoRow.holds Try.pinned (OpenSpec.upto cipherRekeysSpec)

/-- 'signetkeep.CipherTalk', WHERE WHAT IT READS IS OF BULK AT MOST 1048576: true; the input reads as it did. -/
def cipherTalkUptoRow : OpenClaim := { program := "ytmhpifphohcfmaa", sum := "ef0bcc876077fa2d7980b3c348bc29da321cd99cc91801aaf1f7f970fa875553", func := "signet/signetkeep.CipherTalk", spec := "cipherTalk", inPlace := ["math/bits.Sub64", "math/bits.Add64"], unfollowed := true, recurses := true, apart := false, narrowed := true }
def CipherTalkUptoSaid : Prop := cipherTalkUptoRow.holds Try.pinned (OpenSpec.upto cipherTalkSpec)

/-- 'signetkeep.CipherEnds', WHERE WHAT IT READS IS OF BULK AT MOST 1048576: true; the input reads as it did. -/
def cipherEndsUptoRow : OpenClaim := { program := "ytmhpifphohcfmaa", sum := "ef0bcc876077fa2d7980b3c348bc29da321cd99cc91801aaf1f7f970fa875553", func := "signet/signetkeep.CipherEnds", spec := "cipherEnds", inPlace := ["math/bits.Sub64", "math/bits.Add64"], unfollowed := true, recurses := true, apart := false, narrowed := true }
def CipherEndsUptoSaid : Prop := cipherEndsUptoRow.holds Try.pinned (OpenSpec.upto cipherEndsSpec)

end Rows
end Go.Proofs.Ytmhpifphohcfmaa
