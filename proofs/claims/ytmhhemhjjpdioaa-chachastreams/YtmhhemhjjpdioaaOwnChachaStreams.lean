/- The law signetlaw.ChachaStreams, for every key, counter, nonce and bytes: it returns true, and its arguments read as they did. -/
import Derived.Test.YtmhhemhjjpdioaaRows
import Derived.Test.YtmhhemhjjpdioaaC5
import Derived.Test.YtmhhemhjjpdioaaD3
import Derived.Test.YtmhhemhjjpdioaaOpen2
namespace Go.Proofs.Ytmhhemhjjpdioaa
open Go.ChangeShapes Go.WideShapes Go.ChangeAt Go.RowKit

theorem chachaStreams_own : ownKnob Try.prog.godebug = none := by kernel_rfl
theorem chachaStreams_laid : laidOutB Try.prog = true := by kernel_rfl
theorem chachaStreams_und22 : Try.prog.underlying 22 = some (.array 32 5) := by kernel_rfl
theorem chachaStreams_und5 : Try.prog.underlying 5 = some (.int .u8) := by kernel_rfl
theorem chachaStreams_cel5 : Try.prog.cellsOf 5 = 1 := by kernel_rfl
theorem chachaStreams_cel22 : Try.prog.cellsOf 22 = 32 := by kernel_rfl
theorem chachaStreams_und23 : Try.prog.underlying 23 = some (.int .u32) := by kernel_rfl
theorem chachaStreams_und24 : Try.prog.underlying 24 = some (.array 12 5) := by kernel_rfl
theorem chachaStreams_cel24 : Try.prog.cellsOf 24 = 12 := by kernel_rfl
theorem chachaStreams_und28 : Try.prog.underlying 28 = some (.slice 5) := by kernel_rfl
theorem chachaStreams_fn {G : Mem} (k : Nat → Nat) (c : Nat) (nn : Nat → Nat) (v : Value) (l : List Nat) (hv : Shows G 1 v l.length (l.map by8)) (hb : ∀ b ∈ l, b < 256) (hk : ∀ j, j < 32 → k j < 256) (hn : ∀ j, j < 12 → nn j < 256) (hc : c < 4294967296) : Fn Try.prog G 4 #[.agg (arr .u8 32 k), uw c, .agg (arr .u8 12 nn), v] (.bool true) := by
  by_cases h1 : 1600 < l.length
  · exact chachaStreams_big k c nn v l hv hb hk hn hc h1 (fun G k c nn v l hv _ _ _ _ hl => stream_big k c nn v l hv hl)
  · by_cases h2 : 64 * (4294967296 - c) < l.length
    · exact chachaStreams_over k c nn v l hv hb hk hn hc (by omega) h2 (fun G k c nn v l hv _ _ _ hc hl ho => stream_over k c nn v l hv hc hl ho)
    · exact chachaStreams_ok k c nn v l hv hb hk hn hc (by omega) h2 (fun G k c nn v l hv _ hk hn hc hl ho => stream_ok k c nn v l hv hk hn hc hl ho)

set_option maxRecDepth 100000 in
theorem chachaStreams_lifted (os : Os) (started : os.Started) (H : Type) (enc : TypeId × Value → H) :
    ReturnsInHanded {} Try.checked os 4 .any (Rows.chachaStreamsSpec.pre6 enc Try.prog Try.f4 Rows.chachaStreamsRow.domain false) (Rows.chachaStreamsSpec.post enc Try.prog Try.f4 false true false false) := by
  refine returnsInHanded_of_change (C := Try.checked) chachaStreams_own started (by kernel_rfl) Try.func4
    (ChangeSpec.witness6 (enc := enc) (C := Try.checked) false ⟨#[], #[.agg (arr .u8 32 fun _ => 0), .int .u32 0, .agg (arr .u8 12 fun _ => 0), .slice none 0 0], []⟩ 8 (by kernel_rfl) (by kernel_rfl) (by kernel_rfl) (by kernel_rfl)) ?_
  intro W base args ds gs before hval0 hW hcnd _
  have hval : ∀ (j : Nat) t v, Try.f4.params[j]? = some t → args[j]? = some v → Value.okWide Try.prog W .any base t v := hval0
  have hW' := hW
  obtain ⟨p, q, hA0, hV, rfl, hfz, hnd⟩ := hW
  have hA : DataW.TrodAll enc Try.prog W 0 (fun _ => true) true Try.f4.params.toList args.toList ds p := hA0
  rw [Try.params4] at hA hval
  have hplt := DataW.TrodAll.lt hA
  obtain ⟨v0, v1, v2, v3, d0, d1, d2, d3, p0, p1, p2, p3, rfl, rfl, rfl, h0, h1, h2, h3⟩ := trodAll_four hA
  obtain ⟨rfl, rfl⟩ := trodVars_none hV
  have hk0 := h0
  have hk1 := h1
  have hk2 := h2
  have hk3 := h3
  obtain ⟨f0, rfl, hf0, rfl⟩ := open_arr chachaStreams_und22 chachaStreams_und5 chachaStreams_cel5 chachaStreams_cel22 wf_u8 (hval 0 22 v0 rfl rfl) h0
  obtain ⟨z1, rfl, rfl, rfl, wf1⟩ := open_int chachaStreams_und23 (hval 1 23 v1 rfl rfl) h1
  obtain ⟨c1, rfl, hc1⟩ := wf_u32 z1 wf1
  obtain ⟨f2, rfl, hf2, rfl⟩ := open_arr chachaStreams_und24 chachaStreams_und5 chachaStreams_cel5 chachaStreams_cel24 wf_u8 (hval 2 24 v2 rfl rfl) h2
  obtain ⟨l3, G3, hl3, hm3, hv3, hG3⟩ := open_bytes chachaStreams_und28 chachaStreams_und5 chachaStreams_cel5 (hval 3 28 v3 rfl rfl) h3
  clear hA0 hval0
  simp only [List.append_nil] at hW'
  refine ((chachaStreams_fn (G := G3) f0 c1 f2 v3 l3 hv3 hl3 hf0 hf2 hc1) W hG3).mono fun e W' ⟨he, hb⟩ => ?_
  subst he
  exact ⟨_, rfl, _, _, _, [], _, [], hW', trodAll_mk1 (shut_bool Try.underlying4 _), trodAll_mk4 (Below.trod chachaStreams_laid (by kernel_rfl) (of_decide_eq_true (by kernel_rfl)) hk0 hb (fun x hx => hplt x (by first | exact absurd hx List.not_mem_nil | simp [hx]))) (Below.trod chachaStreams_laid (by kernel_rfl) (of_decide_eq_true (by kernel_rfl)) hk1 hb (fun x hx => hplt x (by first | exact absurd hx List.not_mem_nil | simp [hx]))) (Below.trod chachaStreams_laid (by kernel_rfl) (of_decide_eq_true (by kernel_rfl)) hk2 hb (fun x hx => hplt x (by first | exact absurd hx List.not_mem_nil | simp [hx]))) (Below.trod chachaStreams_laid (by kernel_rfl) (of_decide_eq_true (by kernel_rfl)) hk3 hb (fun x hx => hplt x (by first | exact absurd hx List.not_mem_nil | simp [hx]))), rfl, hb.frame _, fun h => by cases h⟩

theorem chachaStreams_holds : Rows.ChachaStreamsSaid :=
  OpenClaim.holds_of_wide 4 Try.f4 rfl rfl rfl rfl rfl rfl rfl ⟨rfl, rfl, rfl, rfl, rfl⟩ rfl rfl rfl rfl rfl (by kernel_rfl) Try.func4 (by kernel_rfl)
    (of_decide_eq_true (by kernel_rfl)) (by unfold Func.isWrapper; first | (rw [if_pos (by decide +kernel)]; kernel_rfl) | (rw [if_neg (by decide +kernel)]; exact ⟨rfl, rfl⟩))
    (fun os started H enc _ => chachaStreams_lifted os started H enc)
#print axioms chachaStreams_holds
end Go.Proofs.Ytmhhemhjjpdioaa
