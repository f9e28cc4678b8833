/- signetlaw.TraceTells: for every pattern it returns true, and its argument reads as it did. (Named besides, for the packs: cleanT, y_none, agB, nodesL, deepL, TT.deep, TT.nodes, asp.) -/
import Derived.Test.YtfldnikepdbgkaaRows
import Derived.Test.YtfldnikepdbgkaaKt7
import Derived.Test.YtfldnikepdbgkaaKt3
import Derived.Test.YtfldnikepdbgkaaKt2
namespace Go.Proofs.Ytfldnikepdbgkaa
open Go.ChangeShapes Go.WideShapes Go.ChangeAt Go.RowKit

theorem traceTells_own : ownKnob Try.prog.godebug = none := by kernel_rfl
theorem traceTells_laid : laidOutB Try.prog = true := by kernel_rfl
theorem traceTells_cts26 : Try.prog.cellTypes Try.prog.depth 26 = some [9, 4, 22, 22, 22, 24] := by kernel_rfl
theorem traceTells_und26 : Try.prog.underlying 26 = some (.struct #[.mk "Base" 9 0 false "" "" 0, .mk "Late" 4 1 false "" "" 16, .mk "Psks" 22 2 false "" "" 24, .mk "Pre" 23 3 false "" "" 48, .mk "Turns" 24 5 false "" "" 96]) := by kernel_rfl
theorem traceTells_cel26 : Try.prog.cellsOf 26 = 6 := by kernel_rfl
theorem traceTells_und9 : Try.prog.underlying 9 = some (.string) := by kernel_rfl
theorem traceTells_und4 : Try.prog.underlying 4 = some (.bool) := by kernel_rfl
theorem traceTells_und22 : Try.prog.underlying 22 = some (.slice 3) := by kernel_rfl
theorem traceTells_und23 : Try.prog.underlying 23 = some (.array 2 22) := by kernel_rfl
theorem traceTells_und24 : Try.prog.underlying 24 = some (.slice 22) := by kernel_rfl
theorem traceTells_und3 : Try.prog.underlying 3 = some (.int .i64) := by kernel_rfl
theorem traceTells_cel9 : Try.prog.cellsOf 9 = 1 := by kernel_rfl
theorem traceTells_cel4 : Try.prog.cellsOf 4 = 1 := by kernel_rfl
theorem traceTells_cel22 : Try.prog.cellsOf 22 = 1 := by kernel_rfl
theorem traceTells_cel23 : Try.prog.cellsOf 23 = 2 := by kernel_rfl
theorem traceTells_cel24 : Try.prog.cellsOf 24 = 1 := by kernel_rfl
theorem traceTells_cel3 : Try.prog.cellsOf 3 = 1 := by kernel_rfl

set_option maxRecDepth 100000 in
set_option maxHeartbeats 4000000 in
theorem traceTells_lifted (os : Os) (started : os.Started) (H : Type) (enc : TypeId × Value → H) :
    ReturnsInHanded {} Try.checked os 3 .any (Rows.traceTellsSpec.pre6 enc Try.prog Try.f3 Rows.traceTellsRow.domain false) (Rows.traceTellsSpec.post enc Try.prog Try.f3 false true false false) := by
  refine returnsInHanded_of_change_sized (C := Try.checked) traceTells_own started (by kernel_rfl) Try.func3
    (ChangeSpec.witness6 (enc := enc) (C := Try.checked) false ⟨#[], #[.agg #[.string ByteArray.empty, .bool false, .slice none 0 0, .slice none 0 0, .slice none 0 0, .slice none 0 0]], []⟩ 8 (by kernel_rfl) (by kernel_rfl) (by kernel_rfl) (by kernel_rfl)) ?_
  intro W base args ds gs before hval0 hW hcnd hwt _
  have hval : ∀ (j : Nat) t v, Try.f3.params[j]? = some t → args[j]? = some v → Value.okWide Try.prog W .any base t v := hval0
  have hW' := hW
  obtain ⟨p, q, hA0, hV, rfl, hfz, hnd⟩ := hW
  have hA : DataW.TrodAll enc Try.prog W 0 (fun _ => true) true Try.f3.params.toList args.toList ds p := hA0
  rw [Try.params3] at hA hval
  have hplt := DataW.TrodAll.lt hA
  obtain ⟨v0, d0, rfl, rfl, h0⟩ := trodAll_one hA
  obtain ⟨rfl, rfl⟩ := trodVars_none hV
  have hk0 := h0
  obtain ⟨G0, base0, late0, vp0, va0, vb0, vt0, ps0, pa0, pb0, tvs0, ts0, rfl, hG0, hb0, hm0, hp0, hvt0, hLI0, hT0, hQ0⟩ := open_pat [26, 9, 4, 22, 3, 23, 24] (by kernel_rfl) (by decide) traceTells_und26 traceTells_cts26 traceTells_cel26 traceTells_cel26 rfl rfl rfl rfl rfl rfl rfl rfl traceTells_und9 traceTells_und4 traceTells_und22 traceTells_und23 traceTells_und24 traceTells_und3 traceTells_cel9 traceTells_cel4 traceTells_cel22 traceTells_cel23 traceTells_cel24 traceTells_cel3 (hval 0 26 v0 rfl rfl) h0
  clear hA0 hval0
  simp only [List.append_nil] at hW'
  refine ((traceTells_fn (G := G0) base0 late0 vp0 va0 vb0 vt0 tvs0 ps0 pa0 pb0 ts0 hp0.1 hvt0 hLI0) W hG0).mono fun e W' ⟨he, hb⟩ => ?_
  subst he
  exact ⟨_, rfl, _, _, _, [], _, [], hW', trodAll_mk1 (shut_bool Try.underlying4 _), trodAll_mk1 (Below.trod traceTells_laid (by kernel_rfl) (of_decide_eq_true (by kernel_rfl)) hk0 hb (fun x hx => hplt x (by first | exact absurd hx List.not_mem_nil | simp [hx]))), rfl, hb.frame _, fun h => by cases h⟩

theorem traceTells_holds : Rows.TraceTellsSaid :=
  OpenClaim.holds_of_wide 3 Try.f3 rfl rfl rfl rfl rfl rfl rfl ⟨rfl, rfl, rfl, rfl, rfl⟩ rfl rfl rfl rfl rfl (by kernel_rfl) Try.func3 (by kernel_rfl)
    (of_decide_eq_true (by kernel_rfl)) (by unfold Func.isWrapper; first | (rw [if_pos (by decide +kernel)]; kernel_rfl) | (rw [if_neg (by decide +kernel)]; exact ⟨rfl, rfl⟩))
    (fun os started H enc _ => traceTells_lifted os started H enc)
#print axioms traceTells_holds
end Go.Proofs.Ytfldnikepdbgkaa
