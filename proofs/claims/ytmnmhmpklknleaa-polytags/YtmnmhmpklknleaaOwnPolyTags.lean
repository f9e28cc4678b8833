/- The law signetlaw.PolyTags, for every key and all bytes: it returns true, and its arguments read as they did. -/
import Derived.Test.YtmnmhmpklknleaaRows
import Derived.Test.YtmnmhmpklknleaaK7
namespace Go.Proofs.Ytmnmhmpklknleaa
open Go.ChangeShapes Go.WideShapes Go.ChangeAt Go.RowKit

theorem polyTags_own : ownKnob Try.prog.godebug = none := by kernel_rfl
theorem polyTags_laid : laidOutB Try.prog = true := by kernel_rfl
theorem polyTags_und22 : Try.prog.underlying 22 = some (.array 32 5) := by kernel_rfl
theorem polyTags_und5 : Try.prog.underlying 5 = some (.int .u8) := by kernel_rfl
theorem polyTags_cel5 : Try.prog.cellsOf 5 = 1 := by kernel_rfl
theorem polyTags_cel22 : Try.prog.cellsOf 22 = 32 := by kernel_rfl
theorem polyTags_und33 : Try.prog.underlying 33 = some (.slice 5) := by kernel_rfl
theorem polyTags_byo5 : Try.prog.bytesOf 5 = 1 := by kernel_rfl

set_option maxRecDepth 100000 in
theorem polyTags_lifted (os : Os) (started : os.Started) (H : Type) (enc : TypeId × Value → H) :
    ReturnsInHanded {} Try.checked os 6 .any (Rows.polyTagsSpec.pre6 enc Try.prog Try.f6 Rows.polyTagsRow.domain false) (Rows.polyTagsSpec.post enc Try.prog Try.f6 false true false false) := by
  refine returnsInHanded_of_change_sized (C := Try.checked) polyTags_own started (by kernel_rfl) Try.func6
    (ChangeSpec.witness6 (enc := enc) (C := Try.checked) false ⟨#[], #[.agg (arr .u8 32 fun _ => 0), .slice none 0 0], []⟩ 8 (by kernel_rfl) (by kernel_rfl) (by kernel_rfl) (by kernel_rfl)) ?_
  intro W base args ds gs before hval0 hW hcnd hwt _
  have hval : ∀ (j : Nat) t v, Try.f6.params[j]? = some t → args[j]? = some v → Value.okWide Try.prog W .any base t v := hval0
  have hW' := hW
  obtain ⟨p, q, hA0, hV, rfl, hfz, hnd⟩ := hW
  have hA : DataW.TrodAll enc Try.prog W 0 (fun _ => true) true Try.f6.params.toList args.toList ds p := hA0
  rw [Try.params6] at hA hval
  have hplt := DataW.TrodAll.lt hA
  obtain ⟨v0, v1, d0, d1, p0, p1, rfl, rfl, rfl, h0, h1⟩ := trodAll_two hA
  obtain ⟨rfl, rfl⟩ := trodVars_none hV
  have hk0 := h0
  have hk1 := h1
  obtain ⟨f0, rfl, hf0, rfl⟩ := open_arr polyTags_und22 polyTags_und5 polyTags_cel5 polyTags_cel22 wf_u8 (hval 0 22 v0 rfl rfl) h0
  obtain ⟨l1, G1, hl1, hm1, hv1, hG1⟩ := open_bytes polyTags_und33 polyTags_und5 polyTags_cel5 (hval 1 33 v1 rfl rfl) h1
  have hs1 := open_sized polyTags_und33 polyTags_und5 polyTags_cel5 polyTags_byo5 hk1 (each_sized hwt (j := 1) rfl rfl) hv1
  clear hA0 hval0
  simp only [List.append_nil] at hW'
  refine ((polyTags_fn (G := G1) f0 hf0 v1 l1 hv1 hl1 hs1 (fun G f v l hf hb hl hv => dtag_fn f v l hf hb hl hv)) W hG1).mono fun e W' ⟨he, hb⟩ => ?_
  subst he
  exact ⟨_, rfl, _, _, _, [], _, [], hW', trodAll_mk1 (shut_bool Try.underlying4 _), trodAll_mk2 (Below.trod polyTags_laid (by kernel_rfl) (of_decide_eq_true (by kernel_rfl)) hk0 hb (fun x hx => hplt x (by first | exact absurd hx List.not_mem_nil | simp [hx]))) (Below.trod polyTags_laid (by kernel_rfl) (of_decide_eq_true (by kernel_rfl)) hk1 hb (fun x hx => hplt x (by first | exact absurd hx List.not_mem_nil | simp [hx]))), rfl, hb.frame _, fun h => by cases h⟩

theorem polyTags_holds : Rows.PolyTagsSaid :=
  OpenClaim.holds_of_wide 6 Try.f6 rfl rfl rfl rfl rfl rfl rfl ⟨rfl, rfl, rfl, rfl, rfl⟩ rfl rfl rfl rfl rfl (by kernel_rfl) Try.func6 (by kernel_rfl)
    (of_decide_eq_true (by kernel_rfl)) (by unfold Func.isWrapper; first | (rw [if_pos (by decide +kernel)]; kernel_rfl) | (rw [if_neg (by decide +kernel)]; exact ⟨rfl, rfl⟩))
    (fun os started H enc _ => polyTags_lifted os started H enc)
#print axioms polyTags_holds
end Go.Proofs.Ytmnmhmpklknleaa
