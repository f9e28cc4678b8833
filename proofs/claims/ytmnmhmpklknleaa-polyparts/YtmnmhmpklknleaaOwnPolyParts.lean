/- The law signetkeep.PolyParts, for every key, all bytes and two ints: it returns true, and its arguments read as they did. -/
import Derived.Test.YtmnmhmpklknleaaRows
import Derived.Test.YtmnmhmpklknleaaK7
namespace Go.Proofs.Ytmnmhmpklknleaa
open Go.ChangeShapes Go.WideShapes Go.ChangeAt Go.RowKit

theorem polyParts_own : ownKnob Try.prog.godebug = none := by kernel_rfl
theorem polyParts_laid : laidOutB Try.prog = true := by kernel_rfl
theorem polyParts_und22 : Try.prog.underlying 22 = some (.array 32 5) := by kernel_rfl
theorem polyParts_und5 : Try.prog.underlying 5 = some (.int .u8) := by kernel_rfl
theorem polyParts_cel5 : Try.prog.cellsOf 5 = 1 := by kernel_rfl
theorem polyParts_cel22 : Try.prog.cellsOf 22 = 32 := by kernel_rfl
theorem polyParts_und33 : Try.prog.underlying 33 = some (.slice 5) := by kernel_rfl
theorem polyParts_byo5 : Try.prog.bytesOf 5 = 1 := by kernel_rfl
theorem polyParts_und3 : Try.prog.underlying 3 = some (.int .i64) := by kernel_rfl

set_option maxRecDepth 100000 in
theorem polyParts_lifted (os : Os) (started : os.Started) (H : Type) (enc : TypeId × Value → H) :
    ReturnsInHanded {} Try.checked os 7 .any (Rows.polyPartsSpec.pre6 enc Try.prog Try.f7 Rows.polyPartsRow.domain false) (Rows.polyPartsSpec.post enc Try.prog Try.f7 false true false false) := by
  refine returnsInHanded_of_change_sized (C := Try.checked) polyParts_own started (by kernel_rfl) Try.func7
    (ChangeSpec.witness6 (enc := enc) (C := Try.checked) false ⟨#[], #[.agg (arr .u8 32 fun _ => 0), .slice none 0 0, .int .i64 0, .int .i64 0], []⟩ 8 (by kernel_rfl) (by kernel_rfl) (by kernel_rfl) (by kernel_rfl)) ?_
  intro W base args ds gs before hval0 hW hcnd hwt _
  have hval : ∀ (j : Nat) t v, Try.f7.params[j]? = some t → args[j]? = some v → Value.okWide Try.prog W .any base t v := hval0
  have hW' := hW
  obtain ⟨p, q, hA0, hV, rfl, hfz, hnd⟩ := hW
  have hA : DataW.TrodAll enc Try.prog W 0 (fun _ => true) true Try.f7.params.toList args.toList ds p := hA0
  rw [Try.params7] at hA hval
  have hplt := DataW.TrodAll.lt hA
  obtain ⟨v0, v1, v2, v3, d0, d1, d2, d3, p0, p1, p2, p3, rfl, rfl, rfl, h0, h1, h2, h3⟩ := trodAll_four hA
  obtain ⟨rfl, rfl⟩ := trodVars_none hV
  have hk0 := h0
  have hk1 := h1
  have hk2 := h2
  have hk3 := h3
  obtain ⟨f0, rfl, hf0, rfl⟩ := open_arr polyParts_und22 polyParts_und5 polyParts_cel5 polyParts_cel22 wf_u8 (hval 0 22 v0 rfl rfl) h0
  obtain ⟨l1, G1, hl1, hm1, hv1, hG1⟩ := open_bytes polyParts_und33 polyParts_und5 polyParts_cel5 (hval 1 33 v1 rfl rfl) h1
  have hs1 := open_sized polyParts_und33 polyParts_und5 polyParts_cel5 polyParts_byo5 hk1 (each_sized hwt (j := 1) rfl rfl) hv1
  obtain ⟨z2, rfl, rfl, rfl, wf2⟩ := open_int polyParts_und3 (hval 2 3 v2 rfl rfl) h2
  obtain ⟨z3, rfl, rfl, rfl, wf3⟩ := open_int polyParts_und3 (hval 3 3 v3 rfl rfl) h3
  clear hA0 hval0
  simp only [List.append_nil] at hW'
  refine ((polyParts_fn (G := G1) f0 hf0 v1 l1 z2 z3 hv1 hl1 (fun G f hf => dbegin_msg f hf) (fun G f m v l hf hm hlb hl hv => dadded_msg f m v l hf hm hv hlb (by omega)) (fun G f m hf hm => dcheck_msg f m hf) (fun G => dcheck_none) (fun G f m hf hm => dended_msg f m hf hm) (fun G f v l hf hb hl hv => dtag_fn f v l hf hb hl hv)) W hG1).mono fun e W' ⟨he, hb⟩ => ?_
  subst he
  exact ⟨_, rfl, _, _, _, [], _, [], hW', trodAll_mk1 (shut_bool Try.underlying4 _), trodAll_mk4 (Below.trod polyParts_laid (by kernel_rfl) (of_decide_eq_true (by kernel_rfl)) hk0 hb (fun x hx => hplt x (by first | exact absurd hx List.not_mem_nil | simp [hx]))) (Below.trod polyParts_laid (by kernel_rfl) (of_decide_eq_true (by kernel_rfl)) hk1 hb (fun x hx => hplt x (by first | exact absurd hx List.not_mem_nil | simp [hx]))) (Below.trod polyParts_laid (by kernel_rfl) (of_decide_eq_true (by kernel_rfl)) hk2 hb (fun x hx => hplt x (by first | exact absurd hx List.not_mem_nil | simp [hx]))) (Below.trod polyParts_laid (by kernel_rfl) (of_decide_eq_true (by kernel_rfl)) hk3 hb (fun x hx => hplt x (by first | exact absurd hx List.not_mem_nil | simp [hx]))), rfl, hb.frame _, fun h => by cases h⟩

theorem polyParts_holds : Rows.PolyPartsSaid :=
  OpenClaim.holds_of_wide 7 Try.f7 rfl rfl rfl rfl rfl rfl rfl ⟨rfl, rfl, rfl, rfl, rfl⟩ rfl rfl rfl rfl rfl (by kernel_rfl) Try.func7 (by kernel_rfl)
    (of_decide_eq_true (by kernel_rfl)) (by unfold Func.isWrapper; first | (rw [if_pos (by decide +kernel)]; kernel_rfl) | (rw [if_neg (by decide +kernel)]; exact ⟨rfl, rfl⟩))
    (fun os started H enc _ => polyParts_lifted os started H enc)
#print axioms polyParts_holds
end Go.Proofs.Ytmnmhmpklknleaa
