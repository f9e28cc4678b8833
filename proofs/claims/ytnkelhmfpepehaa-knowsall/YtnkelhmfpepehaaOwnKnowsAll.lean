/- signetkeep.KnowsAll: whatever the three lists of raw things are, it returns true, and its arguments read as they did. (Named besides: y_none, yOk_none, hid_none.) -/
import Derived.Test.YtnkelhmfpepehaaRows
import Derived.Test.YtnkelhmfpepehaaKy4
import Derived.Test.YtnkelhmfpepehaaKy2
import Derived.Test.YtnkelhmfpepehaaKy3
namespace Go.Proofs.Ytnkelhmfpepehaa
open Go.ChangeShapes Go.WideShapes Go.ChangeAt Go.RowKit

theorem knowsAll_own : ownKnob Try.prog.godebug = none := by kernel_rfl
theorem knowsAll_laid : laidOutB Try.prog = true := by kernel_rfl
theorem knowsAll_und31 : Try.prog.underlying 31 = some (.slice 52) := by kernel_rfl
theorem knowsAll_und52 : Try.prog.underlying 52 = some (.struct #[.mk "Kind" 3 0 false "" "" 0, .mk "A" 3 1 false "" "" 8, .mk "B" 3 2 false "" "" 16, .mk "Text" 9 3 false "" "" 24]) := by kernel_rfl
theorem knowsAll_cel52 : Try.prog.cellsOf 52 = 4 := by kernel_rfl
theorem knowsAll_und3 : Try.prog.underlying 3 = some (.int .i64) := by kernel_rfl
theorem knowsAll_und9 : Try.prog.underlying 9 = some (.string) := by kernel_rfl
theorem knowsAll_cel3 : Try.prog.cellsOf 3 = 1 := by kernel_rfl
theorem knowsAll_cel9 : Try.prog.cellsOf 9 = 1 := by kernel_rfl

set_option maxRecDepth 100000 in
set_option maxHeartbeats 4000000 in
theorem knowsAll_lifted (os : Os) (started : os.Started) (H : Type) (enc : TypeId × Value → H) :
    ReturnsInHanded {} Try.checked os 6 .any (Rows.knowsAllSpec.pre6 enc Try.prog Try.f6 Rows.knowsAllRow.domain false) (Rows.knowsAllSpec.post enc Try.prog Try.f6 false true false false) := by
  refine returnsInHanded_of_change_sized (C := Try.checked) knowsAll_own started (by kernel_rfl) Try.func6
    (ChangeSpec.witness6 (enc := enc) (C := Try.checked) false ⟨#[], #[.slice none 0 0, .slice none 0 0, .slice none 0 0], []⟩ 8 (by kernel_rfl) (by kernel_rfl) (by kernel_rfl) (by kernel_rfl)) ?_
  intro W base args ds gs before hval0 hW hcnd hwt _
  have hval : ∀ (j : Nat) t v, Try.f6.params[j]? = some t → args[j]? = some v → Value.okWide Try.prog W .any base t v := hval0
  have hW' := hW
  obtain ⟨p, q, hA0, hV, rfl, hfz, hnd⟩ := hW
  have hA : DataW.TrodAll enc Try.prog W 0 (fun _ => true) true Try.f6.params.toList args.toList ds p := hA0
  rw [Try.params6] at hA hval
  have hplt := DataW.TrodAll.lt hA
  obtain ⟨v0, v1, v2, d0, d1, d2, p0, p1, p2, rfl, rfl, rfl, h0, h1, h2⟩ := trodAll_three hA
  obtain ⟨rfl, rfl⟩ := trodVars_none hV
  have hk0 := h0
  have hk1 := h1
  have hk2 := h2
  obtain ⟨x0, G0, hx0, hG0⟩ := rep_open1 [31, 52, 3, 9] (by kernel_rfl) (by decide) knowsAll_und31 (hval 0 31 v0 rfl rfl) h0
  obtain ⟨rs0, hv0, hr0, hm0⟩ := open_raws knowsAll_und31 knowsAll_und52 knowsAll_cel52 rfl rfl rfl rfl knowsAll_und3 knowsAll_und3 knowsAll_und3 knowsAll_und9 knowsAll_cel3 knowsAll_cel3 knowsAll_cel3 knowsAll_cel9 hx0
  obtain ⟨x1, G1, hx1, hG1⟩ := rep_open1 [31, 52, 3, 9] (by kernel_rfl) (by decide) knowsAll_und31 (hval 1 31 v1 rfl rfl) h1
  obtain ⟨rs1, hv1, hr1, hm1⟩ := open_raws knowsAll_und31 knowsAll_und52 knowsAll_cel52 rfl rfl rfl rfl knowsAll_und3 knowsAll_und3 knowsAll_und3 knowsAll_und9 knowsAll_cel3 knowsAll_cel3 knowsAll_cel3 knowsAll_cel9 hx1
  obtain ⟨x2, G2, hx2, hG2⟩ := rep_open1 [31, 52, 3, 9] (by kernel_rfl) (by decide) knowsAll_und31 (hval 2 31 v2 rfl rfl) h2
  obtain ⟨rs2, hv2, hr2, hm2⟩ := open_raws knowsAll_und31 knowsAll_und52 knowsAll_cel52 rfl rfl rfl rfl knowsAll_und3 knowsAll_und3 knowsAll_und3 knowsAll_und9 knowsAll_cel3 knowsAll_cel3 knowsAll_cel3 knowsAll_cel9 hx2
  clear hA0 hval0
  simp only [List.append_nil] at hW'
  refine ((knowsAll_fn (G := (G0 ++ G1) ++ G2) v0 rs0 (hv0.mono (fun x hx => by simp [hx])) v1 rs1 (hv1.mono (fun x hx => by simp [hx])) v2 rs2 (hv2.mono (fun x hx => by simp [hx]))) W (memR_two (memR_two hG0 hG1) hG2)).mono fun e W' ⟨he, hb⟩ => ?_
  subst he
  exact ⟨_, rfl, _, _, _, [], _, [], hW', trodAll_mk1 (shut_bool Try.underlying4 _), trodAll_mk3 (Below.trod knowsAll_laid (by kernel_rfl) (of_decide_eq_true (by kernel_rfl)) hk0 hb (fun x hx => hplt x (by first | exact absurd hx List.not_mem_nil | simp [hx]))) (Below.trod knowsAll_laid (by kernel_rfl) (of_decide_eq_true (by kernel_rfl)) hk1 hb (fun x hx => hplt x (by first | exact absurd hx List.not_mem_nil | simp [hx]))) (Below.trod knowsAll_laid (by kernel_rfl) (of_decide_eq_true (by kernel_rfl)) hk2 hb (fun x hx => hplt x (by first | exact absurd hx List.not_mem_nil | simp [hx]))), rfl, hb.frame _, fun h => by cases h⟩

theorem knowsAll_holds : Rows.KnowsAllSaid :=
  OpenClaim.holds_of_wide 6 Try.f6 rfl rfl rfl rfl rfl rfl rfl ⟨rfl, rfl, rfl, rfl, rfl⟩ rfl rfl rfl rfl rfl (by kernel_rfl) Try.func6 (by kernel_rfl)
    (of_decide_eq_true (by kernel_rfl)) (by unfold Func.isWrapper; first | (rw [if_pos (by decide +kernel)]; kernel_rfl) | (rw [if_neg (by decide +kernel)]; exact ⟨rfl, rfl⟩))
    (fun os started H enc _ => knowsAll_lifted os started H enc)
#print axioms knowsAll_holds
end Go.Proofs.Ytnkelhmfpepehaa
