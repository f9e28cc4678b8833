/- signetlaw.TermChecks: for every two terms it returns true, and its arguments read as they did. -/
import Derived.Test.YtnkelhmfpepehaaRows
import Derived.Test.YtnkelhmfpepehaaKx2
import Derived.Test.YtnkelhmfpepehaaKx1
namespace Go.Proofs.Ytnkelhmfpepehaa
open Go.ChangeShapes Go.WideShapes Go.ChangeAt Go.RowKit

theorem termChecks_own : ownKnob Try.prog.godebug = none := by kernel_rfl
theorem termChecks_laid : laidOutB Try.prog = true := by kernel_rfl
theorem termChecks_cts24 : Try.prog.cellTypes Try.prog.depth 24 = some [3, 3, 3, 22] := by kernel_rfl
theorem termChecks_und24 : Try.prog.underlying 24 = some (.struct #[.mk "Kind" 3 0 false "" "" 0, .mk "Id" 3 1 false "" "" 8, .mk "Other" 3 2 false "" "" 16, .mk "Args" 22 3 false "" "" 24]) := by kernel_rfl
theorem termChecks_cel24 : Try.prog.cellsOf 24 = 4 := by kernel_rfl
theorem termChecks_und3 : Try.prog.underlying 3 = some (.int .i64) := by kernel_rfl
theorem termChecks_und22 : Try.prog.underlying 22 = some (.slice 24) := by kernel_rfl
theorem termChecks_cel3 : Try.prog.cellsOf 3 = 1 := by kernel_rfl
theorem termChecks_cel22 : Try.prog.cellsOf 22 = 1 := by kernel_rfl

set_option maxRecDepth 100000 in
set_option maxHeartbeats 4000000 in
theorem termChecks_lifted (os : Os) (started : os.Started) (H : Type) (enc : TypeId × Value → H) :
    ReturnsInHanded {} Try.checked os 3 .any (Rows.termChecksSpec.pre6 enc Try.prog Try.f3 Rows.termChecksRow.domain false) (Rows.termChecksSpec.post enc Try.prog Try.f3 false true false false) := by
  refine returnsInHanded_of_change_sized (C := Try.checked) termChecks_own started (by kernel_rfl) Try.func3
    (ChangeSpec.witness6 (enc := enc) (C := Try.checked) false ⟨#[], #[.agg #[.int .i64 0, .int .i64 0, .int .i64 0, .slice none 0 0], .agg #[.int .i64 0, .int .i64 0, .int .i64 0, .slice none 0 0]], []⟩ 8 (by kernel_rfl) (by kernel_rfl) (by kernel_rfl) (by kernel_rfl)) ?_
  intro W base args ds gs before hval0 hW hcnd hwt _
  have hval : ∀ (j : Nat) t v, Try.f3.params[j]? = some t → args[j]? = some v → Value.okWide Try.prog W .any base t v := hval0
  have hW' := hW
  obtain ⟨p, q, hA0, hV, rfl, hfz, hnd⟩ := hW
  have hA : DataW.TrodAll enc Try.prog W 0 (fun _ => true) true Try.f3.params.toList args.toList ds p := hA0
  rw [Try.params3] at hA hval
  have hplt := DataW.TrodAll.lt hA
  obtain ⟨v0, v1, d0, d1, p0, p1, rfl, rfl, rfl, h0, h1⟩ := trodAll_two hA
  obtain ⟨rfl, rfl⟩ := trodVars_none hV
  have hk0 := h0
  have hk1 := h1
  obtain ⟨G0, T0, c0, xs0, rfl, hG0, hT0⟩ := open_term [24, 3, 22] (by kernel_rfl) (by decide) termChecks_und24 termChecks_cts24 termChecks_cel24 termChecks_cel24 rfl rfl rfl rfl rfl rfl rfl rfl termChecks_und3 termChecks_und22 termChecks_cel3 termChecks_cel22 (hval 0 24 v0 rfl rfl) h0
  obtain ⟨G1, T1, c1, xs1, rfl, hG1, hT1⟩ := open_term [24, 3, 22] (by kernel_rfl) (by decide) termChecks_und24 termChecks_cts24 termChecks_cel24 termChecks_cel24 rfl rfl rfl rfl rfl rfl rfl rfl termChecks_und3 termChecks_und22 termChecks_cel3 termChecks_cel22 (hval 1 24 v1 rfl rfl) h1
  clear hA0 hval0
  simp only [List.append_nil] at hW'
  refine ((termChecks_fn (G := G0 ++ G1) T0 T1 c0 c1 xs0 xs1 (hT0.mono (fun x h => List.mem_append_left _ h)) (hT1.mono (fun x h => List.mem_append_right _ h))) W (memR_two hG0 hG1)).mono fun e W' ⟨he, hb⟩ => ?_
  subst he
  exact ⟨_, rfl, _, _, _, [], _, [], hW', trodAll_mk1 (shut_bool Try.underlying4 _), trodAll_mk2 (Below.trod termChecks_laid (by kernel_rfl) (of_decide_eq_true (by kernel_rfl)) hk0 hb (fun x hx => hplt x (by first | exact absurd hx List.not_mem_nil | simp [hx]))) (Below.trod termChecks_laid (by kernel_rfl) (of_decide_eq_true (by kernel_rfl)) hk1 hb (fun x hx => hplt x (by first | exact absurd hx List.not_mem_nil | simp [hx]))), rfl, hb.frame _, fun h => by cases h⟩

theorem termChecks_holds : Rows.TermChecksSaid :=
  OpenClaim.holds_of_wide 3 Try.f3 rfl rfl rfl rfl rfl rfl rfl ⟨rfl, rfl, rfl, rfl, rfl⟩ rfl rfl rfl rfl rfl (by kernel_rfl) Try.func3 (by kernel_rfl)
    (of_decide_eq_true (by kernel_rfl)) (by unfold Func.isWrapper; first | (rw [if_pos (by decide +kernel)]; kernel_rfl) | (rw [if_neg (by decide +kernel)]; exact ⟨rfl, rfl⟩))
    (fun os started H enc _ => termChecks_lifted os started H enc)
#print axioms termChecks_holds
end Go.Proofs.Ytnkelhmfpepehaa
