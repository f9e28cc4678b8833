/- The law signetkeep.CipherTalk, for every key, all lists of raw numbers and every int: it returns true, and its arguments read as they did. -/
import Derived.Test.YtmhpifphohcfmaaRows
import Derived.Test.YtmhpifphohcfmaaK6
import Derived.Test.YtmhpifphohcfmaaK7
import Derived.Test.YtmhpifphohcfmaaK3
namespace Go.Proofs.Ytmhpifphohcfmaa
open Go.ChangeShapes Go.WideShapes Go.ChangeAt Go.RowKit

theorem cipherTalk_own : ownKnob Try.prog.godebug = none := by kernel_rfl
theorem cipherTalk_laid : laidOutB Try.prog = true := by kernel_rfl
theorem cipherTalk_und22 : Try.prog.underlying 22 = some (.array 32 5) := by kernel_rfl
theorem cipherTalk_und5 : Try.prog.underlying 5 = some (.int .u8) := by kernel_rfl
theorem cipherTalk_cel5 : Try.prog.cellsOf 5 = 1 := by kernel_rfl
theorem cipherTalk_cel22 : Try.prog.cellsOf 22 = 32 := by kernel_rfl
theorem cipherTalk_und40 : Try.prog.underlying 40 = some (.slice 44) := by kernel_rfl
theorem cipherTalk_und44 : Try.prog.underlying 44 = some (.struct #[.mk "Kind" 3 0 false "" "" 0, .mk "A" 3 1 false "" "" 8, .mk "B" 3 2 false "" "" 16, .mk "Text" 9 3 false "" "" 24]) := by kernel_rfl
theorem cipherTalk_cel44 : Try.prog.cellsOf 44 = 4 := by kernel_rfl
theorem cipherTalk_und3 : Try.prog.underlying 3 = some (.int .i64) := by kernel_rfl
theorem cipherTalk_und9 : Try.prog.underlying 9 = some (.string) := by kernel_rfl
theorem cipherTalk_cel3 : Try.prog.cellsOf 3 = 1 := by kernel_rfl
theorem cipherTalk_cel9 : Try.prog.cellsOf 9 = 1 := by kernel_rfl

set_option maxRecDepth 100000 in
theorem cipherTalk_lifted (os : Os) (started : os.Started) (H : Type) (enc : TypeId × Value → H) :
    ReturnsInHanded {} Try.checked os 7 .any (Rows.cipherTalkSpec.pre6 enc Try.prog Try.f7 Rows.cipherTalkRow.domain false) (Rows.cipherTalkSpec.post enc Try.prog Try.f7 false true false false) := by
  refine returnsInHanded_of_change_sized (C := Try.checked) cipherTalk_own started (by kernel_rfl) Try.func7
    (ChangeSpec.witness6 (enc := enc) (C := Try.checked) false ⟨#[], #[.agg (arr .u8 32 fun _ => 0), .slice none 0 0, .int .i64 0], []⟩ 8 (by kernel_rfl) (by kernel_rfl) (by kernel_rfl) (by kernel_rfl)) ?_
  intro W base args ds gs before hval0 hW hcnd hwt _
  have hval : ∀ (j : Nat) t v, Try.f7.params[j]? = some t → args[j]? = some v → Value.okWide Try.prog W .any base t v := hval0
  have hW' := hW
  obtain ⟨p, q, hA0, hV, rfl, hfz, hnd⟩ := hW
  have hA : DataW.TrodAll enc Try.prog W 0 (fun _ => true) true Try.f7.params.toList args.toList ds p := hA0
  rw [Try.params7] at hA hval
  have hplt := DataW.TrodAll.lt hA
  obtain ⟨v0, v1, v2, d0, d1, d2, p0, p1, p2, rfl, rfl, rfl, h0, h1, h2⟩ := trodAll_three hA
  obtain ⟨rfl, rfl⟩ := trodVars_none hV
  have hk0 := h0
  have hk1 := h1
  have hk2 := h2
  obtain ⟨f0, rfl, hf0, rfl⟩ := open_arr cipherTalk_und22 cipherTalk_und5 cipherTalk_cel5 cipherTalk_cel22 wf_u8 (hval 0 22 v0 rfl rfl) h0
  obtain ⟨x1, G1, hx1, hG1⟩ := rep_open1 [40, 44, 3, 9] (by kernel_rfl) (by decide) cipherTalk_und40 (hval 1 40 v1 rfl rfl) h1
  obtain ⟨rs1, hv1, hr1, hm1⟩ := open_raws cipherTalk_und40 cipherTalk_und44 cipherTalk_cel44 rfl rfl rfl rfl cipherTalk_und3 cipherTalk_und3 cipherTalk_und3 cipherTalk_und9 cipherTalk_cel3 cipherTalk_cel3 cipherTalk_cel3 cipherTalk_cel9 hx1
  obtain ⟨z2, rfl, rfl, rfl, wf2⟩ := open_int cipherTalk_und3 (hval 2 3 v2 rfl rfl) h2
  clear hA0 hval0
  simp only [List.append_nil] at hW'
  refine ((cipherTalk_fn (G := G1) f0 hf0 v1 rs1 z2 hv1 hr1 dBg8 dSl8 dOp8 dRk8) W hG1).mono fun e W' ⟨he, hb⟩ => ?_
  subst he
  exact ⟨_, rfl, _, _, _, [], _, [], hW', trodAll_mk1 (shut_bool Try.underlying4 _), trodAll_mk3 (Below.trod cipherTalk_laid (by kernel_rfl) (of_decide_eq_true (by kernel_rfl)) hk0 hb (fun x hx => hplt x (by first | exact absurd hx List.not_mem_nil | simp [hx]))) (Below.trod cipherTalk_laid (by kernel_rfl) (of_decide_eq_true (by kernel_rfl)) hk1 hb (fun x hx => hplt x (by first | exact absurd hx List.not_mem_nil | simp [hx]))) (Below.trod cipherTalk_laid (by kernel_rfl) (of_decide_eq_true (by kernel_rfl)) hk2 hb (fun x hx => hplt x (by first | exact absurd hx List.not_mem_nil | simp [hx]))), rfl, hb.frame _, fun h => by cases h⟩

theorem cipherTalk_holds : Rows.CipherTalkSaid :=
  OpenClaim.holds_of_wide 7 Try.f7 rfl rfl rfl rfl rfl rfl rfl ⟨rfl, rfl, rfl, rfl, rfl⟩ rfl rfl rfl rfl rfl (by kernel_rfl) Try.func7 (by kernel_rfl)
    (of_decide_eq_true (by kernel_rfl)) (by unfold Func.isWrapper; first | (rw [if_pos (by decide +kernel)]; kernel_rfl) | (rw [if_neg (by decide +kernel)]; exact ⟨rfl, rfl⟩))
    (fun os started H enc _ => cipherTalk_lifted os started H enc)
#print axioms cipherTalk_holds
end Go.Proofs.Ytmhpifphohcfmaa
