/- The law signetkeep.LadderKnown, for every int: it returns true, and its argument reads as it did. -/
import Derived.Test.YthhcgeoldjmpaaaRows
import Derived.Test.YthhcgeoldjmpaaaV4
import Derived.Test.YthhcgeoldjmpaaaOpen
namespace Go.Proofs.Ythhcgeoldjmpaaa
open Go.ChangeShapes Go.WideShapes Go.ChangeAt Go.RowKit

theorem ladderKnown_own : ownKnob Try.prog.godebug = none := by kernel_rfl
theorem ladderKnown_und3 : Try.prog.underlying 3 = some (.int .i64) := by kernel_rfl
theorem ladderKnown_fn (z : Int) : Fn Try.prog [] 6 #[.int .i64 z] (.bool true) := by
  rcases pk2_two z with h | h
  · exact known_0 z h
  · exact known_1 z h

set_option maxRecDepth 100000 in
theorem ladderKnown_lifted (os : Os) (started : os.Started) (H : Type) (enc : TypeId × Value → H) :
    ReturnsInHanded {} Try.checked os 6 .any (Rows.ladderKnownSpec.pre6 enc Try.prog Try.f6 Rows.ladderKnownRow.domain false) (Rows.ladderKnownSpec.post enc Try.prog Try.f6 false true false false) := by
  refine returnsInHanded_of_change (C := Try.checked) ladderKnown_own started (by kernel_rfl) Try.func6
    (ChangeSpec.witness6 (enc := enc) (C := Try.checked) false ⟨#[], #[.int .i64 0], []⟩ 8 (by kernel_rfl) (by kernel_rfl) (by kernel_rfl) (by kernel_rfl)) ?_
  intro W base args ds gs before hval0 hW hcnd _
  have hval : ∀ (j : Nat) t v, Try.f6.params[j]? = some t → args[j]? = some v → Value.okWide Try.prog W .any base t v := hval0
  have hW' := hW
  obtain ⟨p, q, hA0, hV, rfl, hfz, hnd⟩ := hW
  have hA : DataW.TrodAll enc Try.prog W 0 (fun _ => true) true Try.f6.params.toList args.toList ds p := hA0
  rw [Try.params6] at hA hval
  obtain ⟨v0, d0, rfl, rfl, h0⟩ := trodAll_one hA
  obtain ⟨rfl, rfl⟩ := trodVars_none hV
  obtain ⟨z0, rfl, rfl, rfl, wf0⟩ := open_int ladderKnown_und3 (hval 0 3 v0 rfl rfl) h0
  clear hA0 hval0
  simp only [List.append_nil] at hW'
  refine ((ladderKnown_fn z0) W (by simp [MemR])).mono fun e W' ⟨he, hb⟩ => ?_
  subst he
  exact ⟨_, rfl, _, _, _, [], [], [], hW', trodAll_mk1 (shut_bool Try.underlying4 _), trodAll_mk1 (shut_int ladderKnown_und3 wf0), rfl, hb.frame _, fun h => by cases h⟩

theorem ladderKnown_holds : Rows.LadderKnownSaid :=
  OpenClaim.holds_of_wide 6 Try.f6 rfl rfl rfl rfl rfl rfl rfl ⟨rfl, rfl, rfl, rfl, rfl⟩ rfl rfl rfl rfl rfl (by kernel_rfl) Try.func6 (by kernel_rfl)
    (of_decide_eq_true (by kernel_rfl)) (by unfold Func.isWrapper; first | (rw [if_pos (by decide +kernel)]; kernel_rfl) | (rw [if_neg (by decide +kernel)]; exact ⟨rfl, rfl⟩))
    (fun os started H enc _ => ladderKnown_lifted os started H enc)
#print axioms ladderKnown_holds
end Go.Proofs.Ythhcgeoldjmpaaa
