/- The law signetkeep.StreamTwice, for every key, raw data, bytes and int: it returns true, and its arguments read as they did. -/
import Derived.Test.YtmhhemhjjpdioaaRows
import Derived.Test.YtmhhemhjjpdioaaC7
import Derived.Test.YtmhhemhjjpdioaaD3
import Derived.Test.YtmhhemhjjpdioaaOpen2
namespace Go.Proofs.Ytmhhemhjjpdioaa
open Go.ChangeShapes Go.WideShapes Go.ChangeAt Go.RowKit

theorem streamTwice_own : ownKnob Try.prog.godebug = none := by kernel_rfl
theorem streamTwice_laid : laidOutB Try.prog = true := by kernel_rfl
theorem streamTwice_und22 : Try.prog.underlying 22 = some (.array 32 5) := by kernel_rfl
theorem streamTwice_und5 : Try.prog.underlying 5 = some (.int .u8) := by kernel_rfl
theorem streamTwice_cel5 : Try.prog.cellsOf 5 = 1 := by kernel_rfl
theorem streamTwice_cel22 : Try.prog.cellsOf 22 = 32 := by kernel_rfl
theorem streamTwice_und35 : Try.prog.underlying 35 = some (.struct #[.mk "Kind" 3 0 false "" "" 0, .mk "A" 3 1 false "" "" 8, .mk "B" 3 2 false "" "" 16, .mk "Text" 9 3 false "" "" 24]) := by kernel_rfl
theorem streamTwice_cel35 : Try.prog.cellsOf 35 = 4 := by kernel_rfl
theorem streamTwice_und3 : Try.prog.underlying 3 = some (.int .i64) := by kernel_rfl
theorem streamTwice_und9 : Try.prog.underlying 9 = some (.string) := by kernel_rfl
theorem streamTwice_cel3 : Try.prog.cellsOf 3 = 1 := by kernel_rfl
theorem streamTwice_cel9 : Try.prog.cellsOf 9 = 1 := by kernel_rfl
theorem streamTwice_und28 : Try.prog.underlying 28 = some (.slice 5) := by kernel_rfl

set_option maxRecDepth 100000 in
theorem streamTwice_lifted (os : Os) (started : os.Started) (H : Type) (enc : TypeId × Value → H) :
    ReturnsInHanded {} Try.checked os 5 .any (Rows.streamTwiceSpec.pre6 enc Try.prog Try.f5 Rows.streamTwiceRow.domain false) (Rows.streamTwiceSpec.post enc Try.prog Try.f5 false true false false) := by
  refine returnsInHanded_of_change (C := Try.checked) streamTwice_own started (by kernel_rfl) Try.func5
    (ChangeSpec.witness6 (enc := enc) (C := Try.checked) false ⟨#[], #[.agg (arr .u8 32 fun _ => 0), .agg #[.int .i64 0, .int .i64 0, .int .i64 0, .string ByteArray.empty], .slice none 0 0, .int .i64 0], []⟩ 8 (by kernel_rfl) (by kernel_rfl) (by kernel_rfl) (by kernel_rfl)) ?_
  intro W base args ds gs before hval0 hW hcnd _
  have hval : ∀ (j : Nat) t v, Try.f5.params[j]? = some t → args[j]? = some v → Value.okWide Try.prog W .any base t v := hval0
  have hW' := hW
  obtain ⟨p, q, hA0, hV, rfl, hfz, hnd⟩ := hW
  have hA : DataW.TrodAll enc Try.prog W 0 (fun _ => true) true Try.f5.params.toList args.toList ds p := hA0
  rw [Try.params5] at hA hval
  have hplt := DataW.TrodAll.lt hA
  obtain ⟨v0, v1, v2, v3, d0, d1, d2, d3, p0, p1, p2, p3, rfl, rfl, rfl, h0, h1, h2, h3⟩ := trodAll_four hA
  obtain ⟨rfl, rfl⟩ := trodVars_none hV
  have hk0 := h0
  have hk1 := h1
  have hk2 := h2
  have hk3 := h3
  obtain ⟨f0, rfl, hf0, rfl⟩ := open_arr streamTwice_und22 streamTwice_und5 streamTwice_cel5 streamTwice_cel22 wf_u8 (hval 0 22 v0 rfl rfl) h0
  obtain ⟨za1, zb1, zc1, tx1, ht1, rfl⟩ := open_raw streamTwice_und35 streamTwice_cel35 rfl rfl rfl rfl streamTwice_und3 streamTwice_und3 streamTwice_und3 streamTwice_und9 streamTwice_cel3 streamTwice_cel3 streamTwice_cel3 streamTwice_cel9 (hval 1 35 v1 rfl rfl) h1
  obtain ⟨l2, G2, hl2, hm2, hv2, hG2⟩ := open_bytes streamTwice_und28 streamTwice_und5 streamTwice_cel5 (hval 2 28 v2 rfl rfl) h2
  obtain ⟨z3, rfl, rfl, rfl, wf3⟩ := open_int streamTwice_und3 (hval 3 3 v3 rfl rfl) h3
  clear hA0 hval0
  simp only [List.append_nil] at hW'
  refine ((streamTwice_fn (G := G2) f0 za1 zb1 zc1 tx1 v2 l2 z3 hf0 ht1 hv2 hl2 (fun k c nn hk hn hc => block_fn k c nn hk hn hc) (fun G k c nn v l hv _ hk hn hc hl ho => stream_ok k c nn v l hv hk hn hc hl ho)) W hG2).mono fun e W' ⟨he, hb⟩ => ?_
  subst he
  exact ⟨_, rfl, _, _, _, [], _, [], hW', trodAll_mk1 (shut_bool Try.underlying4 _), trodAll_mk4 (Below.trod streamTwice_laid (by kernel_rfl) (of_decide_eq_true (by kernel_rfl)) hk0 hb (fun x hx => hplt x (by first | exact absurd hx List.not_mem_nil | simp [hx]))) (Below.trod streamTwice_laid (by kernel_rfl) (of_decide_eq_true (by kernel_rfl)) hk1 hb (fun x hx => hplt x (by first | exact absurd hx List.not_mem_nil | simp [hx]))) (Below.trod streamTwice_laid (by kernel_rfl) (of_decide_eq_true (by kernel_rfl)) hk2 hb (fun x hx => hplt x (by first | exact absurd hx List.not_mem_nil | simp [hx]))) (Below.trod streamTwice_laid (by kernel_rfl) (of_decide_eq_true (by kernel_rfl)) hk3 hb (fun x hx => hplt x (by first | exact absurd hx List.not_mem_nil | simp [hx]))), rfl, hb.frame _, fun h => by cases h⟩

theorem streamTwice_holds : Rows.StreamTwiceSaid :=
  OpenClaim.holds_of_wide 5 Try.f5 rfl rfl rfl rfl rfl rfl rfl ⟨rfl, rfl, rfl, rfl, rfl⟩ rfl rfl rfl rfl rfl (by kernel_rfl) Try.func5 (by kernel_rfl)
    (of_decide_eq_true (by kernel_rfl)) (by unfold Func.isWrapper; first | (rw [if_pos (by decide +kernel)]; kernel_rfl) | (rw [if_neg (by decide +kernel)]; exact ⟨rfl, rfl⟩))
    (fun os started H enc _ => streamTwice_lifted os started H enc)
#print axioms streamTwice_holds
end Go.Proofs.Ytmhhemhjjpdioaa
