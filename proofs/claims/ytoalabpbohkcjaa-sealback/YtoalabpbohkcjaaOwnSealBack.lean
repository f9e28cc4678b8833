/- The law signetkeep.SealBack, for every key, all raw numbers and all bytes: it returns true, and its arguments read as they did. -/
import Derived.Test.YtoalabpbohkcjaaRows
import Derived.Test.YtoalabpbohkcjaaK9
import Derived.Test.YtoalabpbohkcjaaK10
namespace Go.Proofs.Ytoalabpbohkcjaa
open Go.ChangeShapes Go.WideShapes Go.ChangeAt Go.RowKit

theorem sealBack_own : ownKnob Try.prog.godebug = none := by kernel_rfl
theorem sealBack_laid : laidOutB Try.prog = true := by kernel_rfl
theorem sealBack_und22 : Try.prog.underlying 22 = some (.array 32 5) := by kernel_rfl
theorem sealBack_und5 : Try.prog.underlying 5 = some (.int .u8) := by kernel_rfl
theorem sealBack_cel5 : Try.prog.cellsOf 5 = 1 := by kernel_rfl
theorem sealBack_cel22 : Try.prog.cellsOf 22 = 32 := by kernel_rfl
theorem sealBack_und31 : Try.prog.underlying 31 = some (.struct #[.mk "Kind" 3 0 false "" "" 0, .mk "A" 3 1 false "" "" 8, .mk "B" 3 2 false "" "" 16, .mk "Text" 9 3 false "" "" 24]) := by kernel_rfl
theorem sealBack_cel31 : Try.prog.cellsOf 31 = 4 := by kernel_rfl
theorem sealBack_und3 : Try.prog.underlying 3 = some (.int .i64) := by kernel_rfl
theorem sealBack_und9 : Try.prog.underlying 9 = some (.string) := by kernel_rfl
theorem sealBack_cel3 : Try.prog.cellsOf 3 = 1 := by kernel_rfl
theorem sealBack_cel9 : Try.prog.cellsOf 9 = 1 := by kernel_rfl
theorem sealBack_und24 : Try.prog.underlying 24 = some (.slice 5) := by kernel_rfl
theorem sealBack_byo5 : Try.prog.bytesOf 5 = 1 := by kernel_rfl

set_option maxRecDepth 100000 in
theorem sealBack_lifted (os : Os) (started : os.Started) (H : Type) (enc : TypeId × Value → H) :
    ReturnsInHanded {} Try.checked os 5 .any (Rows.sealBackSpec.pre6 enc Try.prog Try.f5 Rows.sealBackRow.domain false) (Rows.sealBackSpec.post enc Try.prog Try.f5 false true false false) := by
  refine returnsInHanded_of_change_sized (C := Try.checked) sealBack_own started (by kernel_rfl) Try.func5
    (ChangeSpec.witness6 (enc := enc) (C := Try.checked) false ⟨#[], #[.agg (arr .u8 32 fun _ => 0), .agg #[.int .i64 0, .int .i64 0, .int .i64 0, .string ByteArray.empty], .slice none 0 0, .slice none 0 0], []⟩ 8 (by kernel_rfl) (by kernel_rfl) (by kernel_rfl) (by kernel_rfl)) ?_
  intro W base args ds gs before hval0 hW hcnd hwt _
  have hval : ∀ (j : Nat) t v, Try.f5.params[j]? = some t → args[j]? = some v → Value.okWide Try.prog W .any base t v := hval0
  have hW' := hW
  obtain ⟨p, q, hA0, hV, rfl, hfz, hnd⟩ := hW
  have hA : DataW.TrodAll enc Try.prog W 0 (fun _ => true) true Try.f5.params.toList args.toList ds p := hA0
  rw [Try.params5] at hA hval
  have hplt := DataW.TrodAll.lt hA
  obtain ⟨v0, v1, v2, v3, d0, d1, d2, d3, p0, p1, p2, p3, rfl, rfl, rfl, h0, h1, h2, h3⟩ := trodAll_four hA
  obtain ⟨rfl, rfl⟩ := trodVars_none hV
  have hk0 := h0
  have hk1 := h1
  have hk2 := h2
  have hk3 := h3
  obtain ⟨f0, rfl, hf0, rfl⟩ := open_arr sealBack_und22 sealBack_und5 sealBack_cel5 sealBack_cel22 wf_u8 (hval 0 22 v0 rfl rfl) h0
  obtain ⟨za1, zb1, zc1, tx1, ht1, rfl⟩ := open_raw sealBack_und31 sealBack_cel31 rfl rfl rfl rfl sealBack_und3 sealBack_und3 sealBack_und3 sealBack_und9 sealBack_cel3 sealBack_cel3 sealBack_cel3 sealBack_cel9 (hval 1 31 v1 rfl rfl) h1
  obtain ⟨l2, G2, hl2, hm2, hv2, hG2⟩ := open_bytes sealBack_und24 sealBack_und5 sealBack_cel5 (hval 2 24 v2 rfl rfl) h2
  have hs2 := open_sized sealBack_und24 sealBack_und5 sealBack_cel5 sealBack_byo5 hk2 (each_sized hwt (j := 2) rfl rfl) hv2
  obtain ⟨l3, G3, hl3, hm3, hv3, hG3⟩ := open_bytes sealBack_und24 sealBack_und5 sealBack_cel5 (hval 3 24 v3 rfl rfl) h3
  have hs3 := open_sized sealBack_und24 sealBack_und5 sealBack_cel5 sealBack_byo5 hk3 (each_sized hwt (j := 3) rfl rfl) hv3
  clear hA0 hval0
  simp only [List.append_nil] at hW'
  refine ((sealBack_fn (G := G2 ++ G3) f0 za1 zb1 zc1 tx1 v2 v3 l2 l3 hf0 ht1 (hv2.mono (fun x h => List.mem_append_left _ h)) (hv3.mono (fun x h => List.mem_append_right _ h)) hl2 hl3 (fun G k nn va vt ad tx hk hn hva hvt hab htb h h2 => dseal_ok k nn va vt ad tx hk hn hva hvt hab h h2) (fun G k nn va vt ad tx hk hn hva hvt hab htb h h2 => dopen_short k nn va vt ad tx hva hvt h h2) (fun G k nn va vt ad tx hk hn hva hvt hab htb h h2 h3 ho => dopen_ok k nn va vt ad tx hk hn hva hvt hab htb h h2 h3 ho)) W (memR_two hG2 hG3)).mono fun e W' ⟨he, hb⟩ => ?_
  subst he
  exact ⟨_, rfl, _, _, _, [], _, [], hW', trodAll_mk1 (shut_bool Try.underlying4 _), trodAll_mk4 (Below.trod sealBack_laid (by kernel_rfl) (of_decide_eq_true (by kernel_rfl)) hk0 hb (fun x hx => hplt x (by first | exact absurd hx List.not_mem_nil | simp [hx]))) (Below.trod sealBack_laid (by kernel_rfl) (of_decide_eq_true (by kernel_rfl)) hk1 hb (fun x hx => hplt x (by first | exact absurd hx List.not_mem_nil | simp [hx]))) (Below.trod sealBack_laid (by kernel_rfl) (of_decide_eq_true (by kernel_rfl)) hk2 hb (fun x hx => hplt x (by first | exact absurd hx List.not_mem_nil | simp [hx]))) (Below.trod sealBack_laid (by kernel_rfl) (of_decide_eq_true (by kernel_rfl)) hk3 hb (fun x hx => hplt x (by first | exact absurd hx List.not_mem_nil | simp [hx]))), rfl, hb.frame _, fun h => by cases h⟩

theorem sealBack_holds : Rows.SealBackSaid :=
  OpenClaim.holds_of_wide 5 Try.f5 rfl rfl rfl rfl rfl rfl rfl ⟨rfl, rfl, rfl, rfl, rfl⟩ rfl rfl rfl rfl rfl (by kernel_rfl) Try.func5 (by kernel_rfl)
    (of_decide_eq_true (by kernel_rfl)) (by unfold Func.isWrapper; first | (rw [if_pos (by decide +kernel)]; kernel_rfl) | (rw [if_neg (by decide +kernel)]; exact ⟨rfl, rfl⟩))
    (fun os started H enc _ => sealBack_lifted os started H enc)
#print axioms sealBack_holds
end Go.Proofs.Ytoalabpbohkcjaa
