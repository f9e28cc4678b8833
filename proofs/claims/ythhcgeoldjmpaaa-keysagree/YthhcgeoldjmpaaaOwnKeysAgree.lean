/- The law signetkeep.KeysAgree, for every two secrets of 32 bytes: it returns true, and its arguments read as they did. -/
import Derived.Test.YthhcgeoldjmpaaaRows
import Derived.Test.YthhcgeoldjmpaaaV3
import Derived.Test.YthhcgeoldjmpaaaOpen
namespace Go.Proofs.Ythhcgeoldjmpaaa
open Go.ChangeShapes Go.WideShapes Go.ChangeAt Go.RowKit

theorem keysAgree_own : ownKnob Try.prog.godebug = none := by kernel_rfl
theorem keysAgree_cel5 : Try.prog.cellsOf 5 = 1 := by kernel_rfl
theorem keysAgree_cel22 : Try.prog.cellsOf 22 = 32 := by kernel_rfl
theorem keysAgree_und5 : Try.prog.underlying 5 = some (.int .u8) := by kernel_rfl
theorem keysAgree_und22 : Try.prog.underlying 22 = some (.array 32 5) := by kernel_rfl

set_option maxRecDepth 100000 in
theorem keysAgree_lifted (os : Os) (started : os.Started) (H : Type) (enc : TypeId × Value → H) :
    ReturnsInHanded {} Try.checked os 4 .any (Rows.keysAgreeSpec.pre6 enc Try.prog Try.f4 Rows.keysAgreeRow.domain false) (Rows.keysAgreeSpec.post enc Try.prog Try.f4 false true false false) := by
  refine returnsInHanded_of_change (C := Try.checked) keysAgree_own started (by kernel_rfl) Try.func4
    (ChangeSpec.witness6 (enc := enc) (C := Try.checked) false ⟨#[], #[.agg (arr .u8 32 fun _ => 0), .agg (arr .u8 32 fun _ => 0)], []⟩ 8 (by kernel_rfl) (by kernel_rfl) (by kernel_rfl) (by kernel_rfl)) ?_
  intro W base args ds gs before hval0 hW hcnd _
  have hval : ∀ (j : Nat) t v, Try.f4.params[j]? = some t → args[j]? = some v → Value.okWide Try.prog W .any base t v := hval0
  have hW' := hW
  obtain ⟨p, q, hA0, hV, rfl, hfz, hnd⟩ := hW
  have hA : DataW.TrodAll enc Try.prog W 0 (fun _ => true) true Try.f4.params.toList args.toList ds p := hA0
  rw [Try.params4] at hA hval
  obtain ⟨v0, v1, d0, d1, p0, p1, rfl, rfl, rfl, h0, h1⟩ := trodAll_two hA
  obtain ⟨rfl, rfl⟩ := trodVars_none hV
  obtain ⟨f0, rfl, hf0, rfl⟩ := open_arr keysAgree_und22 keysAgree_und5 keysAgree_cel5 keysAgree_cel22 wf_u8 (hval 0 22 v0 rfl rfl) h0
  obtain ⟨f1, rfl, hf1, rfl⟩ := open_arr keysAgree_und22 keysAgree_und5 keysAgree_cel5 keysAgree_cel22 wf_u8 (hval 1 22 v1 rfl rfl) h1
  clear hA0 hval0
  simp only [List.append_nil] at hW'
  refine ((keysAgree_fn (G := []) f0 f1 hf0 hf1) W (by simp [MemR])).mono fun e W' ⟨he, hb⟩ => ?_
  subst he
  exact ⟨_, rfl, _, _, _, [], [], [], hW', trodAll_mk1 (shut_bool Try.underlying4 _), trodAll_mk2 (Trod_arr keysAgree_und22 keysAgree_und5 h0 _ _ _ _) (Trod_arr keysAgree_und22 keysAgree_und5 h1 _ _ _ _), rfl, hb.frame _, fun h => by cases h⟩

theorem keysAgree_holds : Rows.KeysAgreeSaid :=
  OpenClaim.holds_of_wide 4 Try.f4 rfl rfl rfl rfl rfl rfl rfl ⟨rfl, rfl, rfl, rfl, rfl⟩ rfl rfl rfl rfl rfl (by kernel_rfl) Try.func4 (by kernel_rfl)
    (of_decide_eq_true (by kernel_rfl)) (by unfold Func.isWrapper; first | (rw [if_pos (by decide +kernel)]; kernel_rfl) | (rw [if_neg (by decide +kernel)]; exact ⟨rfl, rfl⟩))
    (fun os started H enc _ => keysAgree_lifted os started H enc)
#print axioms keysAgree_holds
end Go.Proofs.Ythhcgeoldjmpaaa
