/- The law signetkeep.StreamOver, for every key and two ints: it returns true, and its arguments read as they did. -/
import Derived.Test.YtmhhemhjjpdioaaRows
import Derived.Test.YtmhhemhjjpdioaaC6
import Derived.Test.YtmhhemhjjpdioaaD3
import Derived.Test.YtmhhemhjjpdioaaOpen2
namespace Go.Proofs.Ytmhhemhjjpdioaa
open Go.ChangeShapes Go.WideShapes Go.ChangeAt Go.RowKit

theorem streamOver_own : ownKnob Try.prog.godebug = none := by kernel_rfl
theorem streamOver_laid : laidOutB Try.prog = true := by kernel_rfl
theorem streamOver_und22 : Try.prog.underlying 22 = some (.array 32 5) := by kernel_rfl
theorem streamOver_und5 : Try.prog.underlying 5 = some (.int .u8) := by kernel_rfl
theorem streamOver_cel5 : Try.prog.cellsOf 5 = 1 := by kernel_rfl
theorem streamOver_cel22 : Try.prog.cellsOf 22 = 32 := by kernel_rfl
theorem streamOver_und3 : Try.prog.underlying 3 = some (.int .i64) := by kernel_rfl

set_option maxRecDepth 100000 in
theorem streamOver_lifted (os : Os) (started : os.Started) (H : Type) (enc : TypeId × Value → H) :
    ReturnsInHanded {} Try.checked os 6 .any (Rows.streamOverSpec.pre6 enc Try.prog Try.f6 Rows.streamOverRow.domain false) (Rows.streamOverSpec.post enc Try.prog Try.f6 false true false false) := by
  refine returnsInHanded_of_change (C := Try.checked) streamOver_own started (by kernel_rfl) Try.func6
    (ChangeSpec.witness6 (enc := enc) (C := Try.checked) false ⟨#[], #[.agg (arr .u8 32 fun _ => 0), .int .i64 0, .int .i64 0], []⟩ 8 (by kernel_rfl) (by kernel_rfl) (by kernel_rfl) (by kernel_rfl)) ?_
  intro W base args ds gs before hval0 hW hcnd _
  have hval : ∀ (j : Nat) t v, Try.f6.params[j]? = some t → args[j]? = some v → Value.okWide Try.prog W .any base t v := hval0
  have hW' := hW
  obtain ⟨p, q, hA0, hV, rfl, hfz, hnd⟩ := hW
  have hA : DataW.TrodAll enc Try.prog W 0 (fun _ => true) true Try.f6.params.toList args.toList ds p := hA0
  rw [Try.params6] at hA hval
  have hplt := DataW.TrodAll.lt hA
  obtain ⟨v0, v1, v2, d0, d1, d2, p0, p1, p2, rfl, rfl, rfl, h0, h1, h2⟩ := trodAll_three hA
  obtain ⟨rfl, rfl⟩ := trodVars_none hV
  have hk0 := h0
  have hk1 := h1
  have hk2 := h2
  obtain ⟨f0, rfl, hf0, rfl⟩ := open_arr streamOver_und22 streamOver_und5 streamOver_cel5 streamOver_cel22 wf_u8 (hval 0 22 v0 rfl rfl) h0
  obtain ⟨z1, rfl, rfl, rfl, wf1⟩ := open_int streamOver_und3 (hval 1 3 v1 rfl rfl) h1
  obtain ⟨z2, rfl, rfl, rfl, wf2⟩ := open_int streamOver_und3 (hval 2 3 v2 rfl rfl) h2
  clear hA0 hval0
  simp only [List.append_nil] at hW'
  refine ((streamOver_fn (G := []) f0 z1 z2 hf0 (fun G k c nn v l hv _ _ _ hc hl ho => stream_over k c nn v l hv hc hl ho) (fun G k c nn v l hv _ hk hn hc hl ho => stream_ok k c nn v l hv hk hn hc hl ho)) W (by simp [MemR])).mono fun e W' ⟨he, hb⟩ => ?_
  subst he
  exact ⟨_, rfl, _, _, _, [], _, [], hW', trodAll_mk1 (shut_bool Try.underlying4 _), trodAll_mk3 (Below.trod streamOver_laid (by kernel_rfl) (of_decide_eq_true (by kernel_rfl)) hk0 hb (fun x hx => hplt x (by first | exact absurd hx List.not_mem_nil | simp [hx]))) (Below.trod streamOver_laid (by kernel_rfl) (of_decide_eq_true (by kernel_rfl)) hk1 hb (fun x hx => hplt x (by first | exact absurd hx List.not_mem_nil | simp [hx]))) (Below.trod streamOver_laid (by kernel_rfl) (of_decide_eq_true (by kernel_rfl)) hk2 hb (fun x hx => hplt x (by first | exact absurd hx List.not_mem_nil | simp [hx]))), rfl, hb.frame _, fun h => by cases h⟩

theorem streamOver_holds : Rows.StreamOverSaid :=
  OpenClaim.holds_of_wide 6 Try.f6 rfl rfl rfl rfl rfl rfl rfl ⟨rfl, rfl, rfl, rfl, rfl⟩ rfl rfl rfl rfl rfl (by kernel_rfl) Try.func6 (by kernel_rfl)
    (of_decide_eq_true (by kernel_rfl)) (by unfold Func.isWrapper; first | (rw [if_pos (by decide +kernel)]; kernel_rfl) | (rw [if_neg (by decide +kernel)]; exact ⟨rfl, rfl⟩))
    (fun os started H enc _ => streamOver_lifted os started H enc)
#print axioms streamOver_holds
end Go.Proofs.Ytmhhemhjjpdioaa
