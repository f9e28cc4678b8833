/- The law signetlaw.ChachaBlocks, for every key, counter and nonce: it returns true, and its arguments read as they did. -/
import Derived.Test.YtmhhemhjjpdioaaRows
import Derived.Test.YtmhhemhjjpdioaaC5
import Derived.Test.YtmhhemhjjpdioaaD3
import Derived.Test.YtmhhemhjjpdioaaOpen2
namespace Go.Proofs.Ytmhhemhjjpdioaa
open Go.ChangeShapes Go.WideShapes Go.ChangeAt Go.RowKit

theorem chachaBlocks_own : ownKnob Try.prog.godebug = none := by kernel_rfl
theorem chachaBlocks_laid : laidOutB Try.prog = true := by kernel_rfl
theorem chachaBlocks_und22 : Try.prog.underlying 22 = some (.array 32 5) := by kernel_rfl
theorem chachaBlocks_und5 : Try.prog.underlying 5 = some (.int .u8) := by kernel_rfl
theorem chachaBlocks_cel5 : Try.prog.cellsOf 5 = 1 := by kernel_rfl
theorem chachaBlocks_cel22 : Try.prog.cellsOf 22 = 32 := by kernel_rfl
theorem chachaBlocks_und23 : Try.prog.underlying 23 = some (.int .u32) := by kernel_rfl
theorem chachaBlocks_und24 : Try.prog.underlying 24 = some (.array 12 5) := by kernel_rfl
theorem chachaBlocks_cel24 : Try.prog.cellsOf 24 = 12 := by kernel_rfl

set_option maxRecDepth 100000 in
theorem chachaBlocks_lifted (os : Os) (started : os.Started) (H : Type) (enc : TypeId × Value → H) :
    ReturnsInHanded {} Try.checked os 3 .any (Rows.chachaBlocksSpec.pre6 enc Try.prog Try.f3 Rows.chachaBlocksRow.domain false) (Rows.chachaBlocksSpec.post enc Try.prog Try.f3 false true false false) := by
  refine returnsInHanded_of_change (C := Try.checked) chachaBlocks_own started (by kernel_rfl) Try.func3
    (ChangeSpec.witness6 (enc := enc) (C := Try.checked) false ⟨#[], #[.agg (arr .u8 32 fun _ => 0), .int .u32 0, .agg (arr .u8 12 fun _ => 0)], []⟩ 8 (by kernel_rfl) (by kernel_rfl) (by kernel_rfl) (by kernel_rfl)) ?_
  intro W base args ds gs before hval0 hW hcnd _
  have hval : ∀ (j : Nat) t v, Try.f3.params[j]? = some t → args[j]? = some v → Value.okWide Try.prog W .any base t v := hval0
  have hW' := hW
  obtain ⟨p, q, hA0, hV, rfl, hfz, hnd⟩ := hW
  have hA : DataW.TrodAll enc Try.prog W 0 (fun _ => true) true Try.f3.params.toList args.toList ds p := hA0
  rw [Try.params3] at hA hval
  have hplt := DataW.TrodAll.lt hA
  obtain ⟨v0, v1, v2, d0, d1, d2, p0, p1, p2, rfl, rfl, rfl, h0, h1, h2⟩ := trodAll_three hA
  obtain ⟨rfl, rfl⟩ := trodVars_none hV
  have hk0 := h0
  have hk1 := h1
  have hk2 := h2
  obtain ⟨f0, rfl, hf0, rfl⟩ := open_arr chachaBlocks_und22 chachaBlocks_und5 chachaBlocks_cel5 chachaBlocks_cel22 wf_u8 (hval 0 22 v0 rfl rfl) h0
  obtain ⟨z1, rfl, rfl, rfl, wf1⟩ := open_int chachaBlocks_und23 (hval 1 23 v1 rfl rfl) h1
  obtain ⟨c1, rfl, hc1⟩ := wf_u32 z1 wf1
  obtain ⟨f2, rfl, hf2, rfl⟩ := open_arr chachaBlocks_und24 chachaBlocks_und5 chachaBlocks_cel5 chachaBlocks_cel24 wf_u8 (hval 2 24 v2 rfl rfl) h2
  clear hA0 hval0
  simp only [List.append_nil] at hW'
  refine ((chachaBlocks_fn (G := []) f0 c1 f2 hf0 hf2 hc1 (fun k c nn hk hn hc => block_fn k c nn hk hn hc)) W (by simp [MemR])).mono fun e W' ⟨he, hb⟩ => ?_
  subst he
  exact ⟨_, rfl, _, _, _, [], _, [], hW', trodAll_mk1 (shut_bool Try.underlying4 _), trodAll_mk3 (Below.trod chachaBlocks_laid (by kernel_rfl) (of_decide_eq_true (by kernel_rfl)) hk0 hb (fun x hx => hplt x (by first | exact absurd hx List.not_mem_nil | simp [hx]))) (Below.trod chachaBlocks_laid (by kernel_rfl) (of_decide_eq_true (by kernel_rfl)) hk1 hb (fun x hx => hplt x (by first | exact absurd hx List.not_mem_nil | simp [hx]))) (Below.trod chachaBlocks_laid (by kernel_rfl) (of_decide_eq_true (by kernel_rfl)) hk2 hb (fun x hx => hplt x (by first | exact absurd hx List.not_mem_nil | simp [hx]))), rfl, hb.frame _, fun h => by cases h⟩

theorem chachaBlocks_holds : Rows.ChachaBlocksSaid :=
  OpenClaim.holds_of_wide 3 Try.f3 rfl rfl rfl rfl rfl rfl rfl ⟨rfl, rfl, rfl, rfl, rfl⟩ rfl rfl rfl rfl rfl (by kernel_rfl) Try.func3 (by kernel_rfl)
    (of_decide_eq_true (by kernel_rfl)) (by unfold Func.isWrapper; first | (rw [if_pos (by decide +kernel)]; kernel_rfl) | (rw [if_neg (by decide +kernel)]; exact ⟨rfl, rfl⟩))
    (fun os started H enc _ => chachaBlocks_lifted os started H enc)
#print axioms chachaBlocks_holds
end Go.Proofs.Ytmhhemhjjpdioaa
