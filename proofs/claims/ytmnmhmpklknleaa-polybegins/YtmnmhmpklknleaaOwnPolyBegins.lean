/- The law signetlaw.PolyBegins, for every key and every state of a sum: it returns true, and its arguments read as they did. -/
import Derived.Test.YtmnmhmpklknleaaRows
import Derived.Test.YtmnmhmpklknleaaK5
import Derived.Test.YtmnmhmpklknleaaK7
namespace Go.Proofs.Ytmnmhmpklknleaa
open Go.ChangeShapes Go.WideShapes Go.ChangeAt Go.RowKit

theorem polyBegins_own : ownKnob Try.prog.godebug = none := by kernel_rfl
theorem polyBegins_laid : laidOutB Try.prog = true := by kernel_rfl
theorem polyBegins_und22 : Try.prog.underlying 22 = some (.array 32 5) := by kernel_rfl
theorem polyBegins_und5 : Try.prog.underlying 5 = some (.int .u8) := by kernel_rfl
theorem polyBegins_cel5 : Try.prog.cellsOf 5 = 1 := by kernel_rfl
theorem polyBegins_cel22 : Try.prog.cellsOf 22 = 32 := by kernel_rfl
theorem polyBegins_cts28 : Try.prog.cellTypes Try.prog.depth 28 = some [23, 23, 23, 23, 23, 23, 23, 5, 5, 5, 5, 5, 5, 5, 5, 5, 5, 5, 5, 5, 5, 5, 5, 3] := by kernel_rfl
theorem polyBegins_und28 : Try.prog.underlying 28 = some (.struct #[.mk "R" 24 0 false "" "" 0, .mk "Pad" 24 2 false "" "" 16, .mk "Acc" 25 4 false "" "" 32, .mk "Held" 26 7 false "" "" 56, .mk "N" 3 23 false "" "" 72]) := by kernel_rfl
theorem polyBegins_cel28 : Try.prog.cellsOf 28 = 24 := by kernel_rfl
theorem polyBegins_und23 : Try.prog.underlying 23 = some (.int .u64) := by kernel_rfl
theorem polyBegins_und3 : Try.prog.underlying 3 = some (.int .i64) := by kernel_rfl

set_option maxRecDepth 100000 in
theorem polyBegins_lifted (os : Os) (started : os.Started) (H : Type) (enc : TypeId × Value → H) :
    ReturnsInHanded {} Try.checked os 3 .any (Rows.polyBeginsSpec.pre6 enc Try.prog Try.f3 Rows.polyBeginsRow.domain false) (Rows.polyBeginsSpec.post enc Try.prog Try.f3 false true false false) := by
  refine returnsInHanded_of_change_sized (C := Try.checked) polyBegins_own started (by kernel_rfl) Try.func3
    (ChangeSpec.witness6 (enc := enc) (C := Try.checked) false ⟨#[], #[.agg (arr .u8 32 fun _ => 0), .agg (cells 24 [pI .u64 2 fun _ => 0, pI .u64 2 fun _ => 0, pI .u64 3 fun _ => 0, pI .u8 16 fun _ => 0, pV (.int .i64 0)])], []⟩ 8 (by kernel_rfl) (by kernel_rfl) (by kernel_rfl) (by kernel_rfl)) ?_
  intro W base args ds gs before hval0 hW hcnd hwt _
  have hval : ∀ (j : Nat) t v, Try.f3.params[j]? = some t → args[j]? = some v → Value.okWide Try.prog W .any base t v := hval0
  have hW' := hW
  obtain ⟨p, q, hA0, hV, rfl, hfz, hnd⟩ := hW
  have hA : DataW.TrodAll enc Try.prog W 0 (fun _ => true) true Try.f3.params.toList args.toList ds p := hA0
  rw [Try.params3] at hA hval
  have hplt := DataW.TrodAll.lt hA
  obtain ⟨v0, v1, d0, d1, p0, p1, rfl, rfl, rfl, h0, h1⟩ := trodAll_two hA
  obtain ⟨rfl, rfl⟩ := trodVars_none hV
  have hk0 := h0
  have hk1 := h1
  obtain ⟨f0, rfl, hf0, rfl⟩ := open_arr polyBegins_und22 polyBegins_und5 polyBegins_cel5 polyBegins_cel22 wf_u8 (hval 0 22 v0 rfl rfl) h0
  obtain ⟨cs1, rfl, hn1, hcl1⟩ := open_cells polyBegins_und28 polyBegins_cts28 polyBegins_cel28 (hval 1 28 v1 rfl rfl)
  obtain ⟨g1_0, hq1_0, hg1_0⟩ := seg_nat hcl1 0 2 polyBegins_und23 has_u64 (by decide)
  obtain ⟨g1_1, hq1_1, hg1_1⟩ := seg_nat hcl1 2 2 polyBegins_und23 has_u64 (by decide)
  obtain ⟨g1_2, hq1_2, hg1_2⟩ := seg_nat hcl1 4 3 polyBegins_und23 has_u64 (by decide)
  obtain ⟨g1_3, hq1_3, hg1_3⟩ := seg_nat hcl1 7 16 polyBegins_und5 has_u8 (by decide)
  obtain ⟨z1_4, hq1_4, hz1_4⟩ := seg_int hcl1 23 polyBegins_und3 (by decide)
  obtain rfl := cells_make (ps := [pI .u64 2 g1_0, pI .u64 2 g1_1, pI .u64 3 g1_2, pI .u8 16 g1_3, pV (.int .i64 z1_4)]) hn1 rfl ⟨hq1_0, hq1_1, hq1_2, hq1_3, hq1_4, trivial⟩
  clear hA0 hval0
  simp only [List.append_nil] at hW'
  refine ((polyBegins_fn (G := []) f0 hf0 g1_0 g1_1 g1_2 g1_3 z1_4 (hg1_2 0 (by decide)) (hg1_2 1 (by decide)) (hg1_0 0 (by decide)) (hg1_0 1 (by decide)) (dbegin_fn f0 hf0) (dcheck_fn g1_0 g1_1 g1_2 g1_3 z1_4 (hg1_2 0 (by decide)) (hg1_2 1 (by decide)) (hg1_2 2 (by decide)) (hg1_0 0 (by decide)) (hg1_0 1 (by decide)))) W (by simp [MemR])).mono fun e W' ⟨he, hb⟩ => ?_
  subst he
  exact ⟨_, rfl, _, _, _, [], _, [], hW', trodAll_mk1 (shut_bool Try.underlying4 _), trodAll_mk2 (Below.trod polyBegins_laid (by kernel_rfl) (of_decide_eq_true (by kernel_rfl)) hk0 hb (fun x hx => hplt x (by first | exact absurd hx List.not_mem_nil | simp [hx]))) (Below.trod polyBegins_laid (by kernel_rfl) (of_decide_eq_true (by kernel_rfl)) hk1 hb (fun x hx => hplt x (by first | exact absurd hx List.not_mem_nil | simp [hx]))), rfl, hb.frame _, fun h => by cases h⟩

theorem polyBegins_holds : Rows.PolyBeginsSaid :=
  OpenClaim.holds_of_wide 3 Try.f3 rfl rfl rfl rfl rfl rfl rfl ⟨rfl, rfl, rfl, rfl, rfl⟩ rfl rfl rfl rfl rfl (by kernel_rfl) Try.func3 (by kernel_rfl)
    (of_decide_eq_true (by kernel_rfl)) (by unfold Func.isWrapper; first | (rw [if_pos (by decide +kernel)]; kernel_rfl) | (rw [if_neg (by decide +kernel)]; exact ⟨rfl, rfl⟩))
    (fun os started H enc _ => polyBegins_lifted os started H enc)
#print axioms polyBegins_holds
end Go.Proofs.Ytmnmhmpklknleaa
