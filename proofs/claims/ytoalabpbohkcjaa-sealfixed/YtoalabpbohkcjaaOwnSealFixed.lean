/- The law signetkeep.SealFixed, for every key, all raw numbers, all bytes, every int and every byte: it returns true, and its arguments read as they did. -/
import Derived.Test.YtoalabpbohkcjaaRows
import Derived.Test.YtoalabpbohkcjaaK9
import Derived.Test.YtoalabpbohkcjaaK10
namespace Go.Proofs.Ytoalabpbohkcjaa
open Go.ChangeShapes Go.WideShapes Go.ChangeAt Go.RowKit

theorem sealFixed_own : ownKnob Try.prog.godebug = none := by kernel_rfl
theorem sealFixed_laid : laidOutB Try.prog = true := by kernel_rfl
theorem sealFixed_und22 : Try.prog.underlying 22 = some (.array 32 5) := by kernel_rfl
theorem sealFixed_und5 : Try.prog.underlying 5 = some (.int .u8) := by kernel_rfl
theorem sealFixed_cel5 : Try.prog.cellsOf 5 = 1 := by kernel_rfl
theorem sealFixed_cel22 : Try.prog.cellsOf 22 = 32 := by kernel_rfl
theorem sealFixed_und31 : Try.prog.underlying 31 = some (.struct #[.mk "Kind" 3 0 false "" "" 0, .mk "A" 3 1 false "" "" 8, .mk "B" 3 2 false "" "" 16, .mk "Text" 9 3 false "" "" 24]) := by kernel_rfl
theorem sealFixed_cel31 : Try.prog.cellsOf 31 = 4 := by kernel_rfl
theorem sealFixed_und3 : Try.prog.underlying 3 = some (.int .i64) := by kernel_rfl
theorem sealFixed_und9 : Try.prog.underlying 9 = some (.string) := by kernel_rfl
theorem sealFixed_cel3 : Try.prog.cellsOf 3 = 1 := by kernel_rfl
theorem sealFixed_cel9 : Try.prog.cellsOf 9 = 1 := by kernel_rfl
theorem sealFixed_und24 : Try.prog.underlying 24 = some (.slice 5) := by kernel_rfl
theorem sealFixed_byo5 : Try.prog.bytesOf 5 = 1 := by kernel_rfl
theorem sealFixed_all {G : Mem} (k : Nat → Nat) (za zb zc : Int) (tr : List Nat) (va vt : Value) (ad0 tx0 : List Nat) (hk : ∀ j, j < 32 → k j < 256) (htr : ∀ x ∈ tr, x < 256) (hva0 : Shows G 1 va ad0.length (ad0.map by8)) (hvt0 : Shows G 1 vt tx0.length (tx0.map by8)) (hab0 : (∀ b ∈ ad0, b < 256)) (htb0 : (∀ b ∈ tx0, b < 256)) (z : Int) (y : Nat) : Fn Try.prog G 6 #[.agg (arr .u8 32 k), .agg #[.int .i64 za, .int .i64 zb, .int .i64 zc, sv tr], va, vt, .int .i64 z, by8 y] (.bool true) := by
  by_cases h : opensL k (nonf tr zb zc) (ad0.take 200) (flip1 (sealL k (nonf tr zb zc) (ad0.take 200) (tx0.take 400)) (pkn z ((tx0.take 400).length + 16)) y)
  · exact sealFixed_a k za zb zc tr va vt ad0 tx0 hk htr hva0 hvt0 hab0 htb0 z y h (fun G k nn va vt ad tx hk hn hva hvt hab htb h h2 => dseal_ok k nn va vt ad tx hk hn hva hvt hab h h2) (fun G k nn va vt ad tx hk hn hva hvt hab htb h h2 h3 ho => dopen_ok k nn va vt ad tx hk hn hva hvt hab htb h h2 h3 ho)
  · exact sealFixed_b k za zb zc tr va vt ad0 tx0 hk htr hva0 hvt0 hab0 htb0 z y h (fun G k nn va vt ad tx hk hn hva hvt hab htb h h2 => dseal_ok k nn va vt ad tx hk hn hva hvt hab h h2) (fun G k nn va vt ad tx hk hn hva hvt hab htb h h2 h3 ho => dopen_auth k nn va vt ad tx hk hn hva hvt hab htb h h2 h3 ho)

set_option maxRecDepth 100000 in
theorem sealFixed_lifted (os : Os) (started : os.Started) (H : Type) (enc : TypeId × Value → H) :
    ReturnsInHanded {} Try.checked os 6 .any (Rows.sealFixedSpec.pre6 enc Try.prog Try.f6 Rows.sealFixedRow.domain false) (Rows.sealFixedSpec.post enc Try.prog Try.f6 false true false false) := by
  refine returnsInHanded_of_change_sized (C := Try.checked) sealFixed_own started (by kernel_rfl) Try.func6
    (ChangeSpec.witness6 (enc := enc) (C := Try.checked) false ⟨#[], #[.agg (arr .u8 32 fun _ => 0), .agg #[.int .i64 0, .int .i64 0, .int .i64 0, .string ByteArray.empty], .slice none 0 0, .slice none 0 0, .int .i64 0, .int .u8 0], []⟩ 8 (by kernel_rfl) (by kernel_rfl) (by kernel_rfl) (by kernel_rfl)) ?_
  intro W base args ds gs before hval0 hW hcnd hwt _
  have hval : ∀ (j : Nat) t v, Try.f6.params[j]? = some t → args[j]? = some v → Value.okWide Try.prog W .any base t v := hval0
  have hW' := hW
  obtain ⟨p, q, hA0, hV, rfl, hfz, hnd⟩ := hW
  have hA : DataW.TrodAll enc Try.prog W 0 (fun _ => true) true Try.f6.params.toList args.toList ds p := hA0
  rw [Try.params6] at hA hval
  have hplt := DataW.TrodAll.lt hA
  obtain ⟨v0, v1, v2, v3, v4, v5, d0, d1, d2, d3, d4, d5, p0, p1, p2, p3, p4, p5, rfl, rfl, rfl, h0, h1, h2, h3, h4, h5⟩ := trodAll_six hA
  obtain ⟨rfl, rfl⟩ := trodVars_none hV
  have hk0 := h0
  have hk1 := h1
  have hk2 := h2
  have hk3 := h3
  have hk4 := h4
  have hk5 := h5
  obtain ⟨f0, rfl, hf0, rfl⟩ := open_arr sealFixed_und22 sealFixed_und5 sealFixed_cel5 sealFixed_cel22 wf_u8 (hval 0 22 v0 rfl rfl) h0
  obtain ⟨za1, zb1, zc1, tx1, ht1, rfl⟩ := open_raw sealFixed_und31 sealFixed_cel31 rfl rfl rfl rfl sealFixed_und3 sealFixed_und3 sealFixed_und3 sealFixed_und9 sealFixed_cel3 sealFixed_cel3 sealFixed_cel3 sealFixed_cel9 (hval 1 31 v1 rfl rfl) h1
  obtain ⟨l2, G2, hl2, hm2, hv2, hG2⟩ := open_bytes sealFixed_und24 sealFixed_und5 sealFixed_cel5 (hval 2 24 v2 rfl rfl) h2
  have hs2 := open_sized sealFixed_und24 sealFixed_und5 sealFixed_cel5 sealFixed_byo5 hk2 (each_sized hwt (j := 2) rfl rfl) hv2
  obtain ⟨l3, G3, hl3, hm3, hv3, hG3⟩ := open_bytes sealFixed_und24 sealFixed_und5 sealFixed_cel5 (hval 3 24 v3 rfl rfl) h3
  have hs3 := open_sized sealFixed_und24 sealFixed_und5 sealFixed_cel5 sealFixed_byo5 hk3 (each_sized hwt (j := 3) rfl rfl) hv3
  obtain ⟨z4, rfl, rfl, rfl, wf4⟩ := open_int sealFixed_und3 (hval 4 3 v4 rfl rfl) h4
  obtain ⟨z5, rfl, rfl, rfl, wf5⟩ := open_int sealFixed_und5 (hval 5 5 v5 rfl rfl) h5
  obtain ⟨c5, rfl, hc5⟩ := wf_byte z5 wf5
  clear hA0 hval0
  simp only [List.append_nil] at hW'
  refine ((sealFixed_all (G := G2 ++ G3) f0 za1 zb1 zc1 tx1 v2 v3 l2 l3 hf0 ht1 (hv2.mono (fun x h => List.mem_append_left _ h)) (hv3.mono (fun x h => List.mem_append_right _ h)) hl2 hl3 z4 c5) W (memR_two hG2 hG3)).mono fun e W' ⟨he, hb⟩ => ?_
  subst he
  exact ⟨_, rfl, _, _, _, [], _, [], hW', trodAll_mk1 (shut_bool Try.underlying4 _), trodAll_mk6 (Below.trod sealFixed_laid (by kernel_rfl) (of_decide_eq_true (by kernel_rfl)) hk0 hb (fun x hx => hplt x (by first | exact absurd hx List.not_mem_nil | simp [hx]))) (Below.trod sealFixed_laid (by kernel_rfl) (of_decide_eq_true (by kernel_rfl)) hk1 hb (fun x hx => hplt x (by first | exact absurd hx List.not_mem_nil | simp [hx]))) (Below.trod sealFixed_laid (by kernel_rfl) (of_decide_eq_true (by kernel_rfl)) hk2 hb (fun x hx => hplt x (by first | exact absurd hx List.not_mem_nil | simp [hx]))) (Below.trod sealFixed_laid (by kernel_rfl) (of_decide_eq_true (by kernel_rfl)) hk3 hb (fun x hx => hplt x (by first | exact absurd hx List.not_mem_nil | simp [hx]))) (Below.trod sealFixed_laid (by kernel_rfl) (of_decide_eq_true (by kernel_rfl)) hk4 hb (fun x hx => hplt x (by first | exact absurd hx List.not_mem_nil | simp [hx]))) (Below.trod sealFixed_laid (by kernel_rfl) (of_decide_eq_true (by kernel_rfl)) hk5 hb (fun x hx => hplt x (by first | exact absurd hx List.not_mem_nil | simp [hx]))), rfl, hb.frame _, fun h => by cases h⟩

theorem sealFixed_holds : Rows.SealFixedSaid :=
  OpenClaim.holds_of_wide 6 Try.f6 rfl rfl rfl rfl rfl rfl rfl ⟨rfl, rfl, rfl, rfl, rfl⟩ rfl rfl rfl rfl rfl (by kernel_rfl) Try.func6 (by kernel_rfl)
    (of_decide_eq_true (by kernel_rfl)) (by unfold Func.isWrapper; first | (rw [if_pos (by decide +kernel)]; kernel_rfl) | (rw [if_neg (by decide +kernel)]; exact ⟨rfl, rfl⟩))
    (fun os started H enc _ => sealFixed_lifted os started H enc)
#print axioms sealFixed_holds
end Go.Proofs.Ytoalabpbohkcjaa
