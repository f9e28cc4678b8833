/- The law signetlaw.SealOpens, for every key, every nonce and all bytes: it returns true, and its arguments read as they did. -/
import Derived.Test.YtoalabpbohkcjaaRows
import Derived.Test.YtoalabpbohkcjaaK9
import Derived.Test.YtoalabpbohkcjaaK10
namespace Go.Proofs.Ytoalabpbohkcjaa
open Go.ChangeShapes Go.WideShapes Go.ChangeAt Go.RowKit

theorem sealOpens_own : ownKnob Try.prog.godebug = none := by kernel_rfl
theorem sealOpens_laid : laidOutB Try.prog = true := by kernel_rfl
theorem sealOpens_und22 : Try.prog.underlying 22 = some (.array 32 5) := by kernel_rfl
theorem sealOpens_und5 : Try.prog.underlying 5 = some (.int .u8) := by kernel_rfl
theorem sealOpens_cel5 : Try.prog.cellsOf 5 = 1 := by kernel_rfl
theorem sealOpens_cel22 : Try.prog.cellsOf 22 = 32 := by kernel_rfl
theorem sealOpens_und23 : Try.prog.underlying 23 = some (.array 12 5) := by kernel_rfl
theorem sealOpens_cel23 : Try.prog.cellsOf 23 = 12 := by kernel_rfl
theorem sealOpens_und24 : Try.prog.underlying 24 = some (.slice 5) := by kernel_rfl
theorem sealOpens_byo5 : Try.prog.bytesOf 5 = 1 := by kernel_rfl
theorem sealOpens_all {G : Mem} (k nn : Nat → Nat) (va vt : Value) (ad tx : List Nat) (hk : ∀ j, j < 32 → k j < 256) (hn : ∀ j, j < 12 → nn j < 256) (hva : Shows G 1 va ad.length (ad.map by8)) (hvt : Shows G 1 vt tx.length (tx.map by8)) (hab : (∀ b ∈ ad, b < 256)) (htb : (∀ b ∈ tx, b < 256)) : Fn Try.prog G 4 #[.agg (arr .u8 32 k), .agg (arr .u8 12 nn), va, vt] (.bool true) := by
  by_cases h : 200 < ad.length
  · exact sealOpens_big1 k nn va vt ad tx hk hn hva hvt hab htb h (fun G k nn va vt ad tx hk hn hva hvt hab htb h => h.elim (fun h => dopen_big1 k nn va vt ad hva h) (fun h => by by_cases h1 : 200 < ad.length; exact dopen_big1 k nn va vt ad hva h1; exact dopen_big2 k nn va vt ad tx hva hvt (by omega) h))
  by_cases h2 : 816 < tx.length
  · exact sealOpens_big2 k nn va vt ad tx hk hn hva hvt hab htb (by omega) h2 (fun G k nn va vt ad tx hk hn hva hvt hab htb h => h.elim (fun h => dopen_big1 k nn va vt ad hva h) (fun h => by by_cases h1 : 200 < ad.length; exact dopen_big1 k nn va vt ad hva h1; exact dopen_big2 k nn va vt ad tx hva hvt (by omega) h))
  by_cases h3 : tx.length < 16
  · exact sealOpens_short k nn va vt ad tx hk hn hva hvt hab htb (by omega) h3 (fun G k nn va vt ad tx hk hn hva hvt hab htb h h2 => dopen_short k nn va vt ad tx hva hvt h h2)
  by_cases ho : opensL k nn ad tx
  · exact sealOpens_ok k nn va vt ad tx hk hn hva hvt hab htb (by omega) (by omega) (by omega) ho (fun G k nn va vt ad tx hk hn hva hvt hab htb h h2 h3 ho => dopen_ok k nn va vt ad tx hk hn hva hvt hab htb h h2 h3 ho)
  · exact sealOpens_auth k nn va vt ad tx hk hn hva hvt hab htb (by omega) (by omega) (by omega) ho (fun G k nn va vt ad tx hk hn hva hvt hab htb h h2 h3 ho => dopen_auth k nn va vt ad tx hk hn hva hvt hab htb h h2 h3 ho)

set_option maxRecDepth 100000 in
theorem sealOpens_lifted (os : Os) (started : os.Started) (H : Type) (enc : TypeId × Value → H) :
    ReturnsInHanded {} Try.checked os 4 .any (Rows.sealOpensSpec.pre6 enc Try.prog Try.f4 Rows.sealOpensRow.domain false) (Rows.sealOpensSpec.post enc Try.prog Try.f4 false true false false) := by
  refine returnsInHanded_of_change_sized (C := Try.checked) sealOpens_own started (by kernel_rfl) Try.func4
    (ChangeSpec.witness6 (enc := enc) (C := Try.checked) false ⟨#[], #[.agg (arr .u8 32 fun _ => 0), .agg (arr .u8 12 fun _ => 0), .slice none 0 0, .slice none 0 0], []⟩ 8 (by kernel_rfl) (by kernel_rfl) (by kernel_rfl) (by kernel_rfl)) ?_
  intro W base args ds gs before hval0 hW hcnd hwt _
  have hval : ∀ (j : Nat) t v, Try.f4.params[j]? = some t → args[j]? = some v → Value.okWide Try.prog W .any base t v := hval0
  have hW' := hW
  obtain ⟨p, q, hA0, hV, rfl, hfz, hnd⟩ := hW
  have hA : DataW.TrodAll enc Try.prog W 0 (fun _ => true) true Try.f4.params.toList args.toList ds p := hA0
  rw [Try.params4] at hA hval
  have hplt := DataW.TrodAll.lt hA
  obtain ⟨v0, v1, v2, v3, d0, d1, d2, d3, p0, p1, p2, p3, rfl, rfl, rfl, h0, h1, h2, h3⟩ := trodAll_four hA
  obtain ⟨rfl, rfl⟩ := trodVars_none hV
  have hk0 := h0
  have hk1 := h1
  have hk2 := h2
  have hk3 := h3
  obtain ⟨f0, rfl, hf0, rfl⟩ := open_arr sealOpens_und22 sealOpens_und5 sealOpens_cel5 sealOpens_cel22 wf_u8 (hval 0 22 v0 rfl rfl) h0
  obtain ⟨f1, rfl, hf1, rfl⟩ := open_arr sealOpens_und23 sealOpens_und5 sealOpens_cel5 sealOpens_cel23 wf_u8 (hval 1 23 v1 rfl rfl) h1
  obtain ⟨l2, G2, hl2, hm2, hv2, hG2⟩ := open_bytes sealOpens_und24 sealOpens_und5 sealOpens_cel5 (hval 2 24 v2 rfl rfl) h2
  have hs2 := open_sized sealOpens_und24 sealOpens_und5 sealOpens_cel5 sealOpens_byo5 hk2 (each_sized hwt (j := 2) rfl rfl) hv2
  obtain ⟨l3, G3, hl3, hm3, hv3, hG3⟩ := open_bytes sealOpens_und24 sealOpens_und5 sealOpens_cel5 (hval 3 24 v3 rfl rfl) h3
  have hs3 := open_sized sealOpens_und24 sealOpens_und5 sealOpens_cel5 sealOpens_byo5 hk3 (each_sized hwt (j := 3) rfl rfl) hv3
  clear hA0 hval0
  simp only [List.append_nil] at hW'
  refine ((sealOpens_all (G := G2 ++ G3) f0 f1 v2 v3 l2 l3 hf0 hf1 (hv2.mono (fun x h => List.mem_append_left _ h)) (hv3.mono (fun x h => List.mem_append_right _ h)) hl2 hl3) W (memR_two hG2 hG3)).mono fun e W' ⟨he, hb⟩ => ?_
  subst he
  exact ⟨_, rfl, _, _, _, [], _, [], hW', trodAll_mk1 (shut_bool Try.underlying4 _), trodAll_mk4 (Below.trod sealOpens_laid (by kernel_rfl) (of_decide_eq_true (by kernel_rfl)) hk0 hb (fun x hx => hplt x (by first | exact absurd hx List.not_mem_nil | simp [hx]))) (Below.trod sealOpens_laid (by kernel_rfl) (of_decide_eq_true (by kernel_rfl)) hk1 hb (fun x hx => hplt x (by first | exact absurd hx List.not_mem_nil | simp [hx]))) (Below.trod sealOpens_laid (by kernel_rfl) (of_decide_eq_true (by kernel_rfl)) hk2 hb (fun x hx => hplt x (by first | exact absurd hx List.not_mem_nil | simp [hx]))) (Below.trod sealOpens_laid (by kernel_rfl) (of_decide_eq_true (by kernel_rfl)) hk3 hb (fun x hx => hplt x (by first | exact absurd hx List.not_mem_nil | simp [hx]))), rfl, hb.frame _, fun h => by cases h⟩

theorem sealOpens_holds : Rows.SealOpensSaid :=
  OpenClaim.holds_of_wide 4 Try.f4 rfl rfl rfl rfl rfl rfl rfl ⟨rfl, rfl, rfl, rfl, rfl⟩ rfl rfl rfl rfl rfl (by kernel_rfl) Try.func4 (by kernel_rfl)
    (of_decide_eq_true (by kernel_rfl)) (by unfold Func.isWrapper; first | (rw [if_pos (by decide +kernel)]; kernel_rfl) | (rw [if_neg (by decide +kernel)]; exact ⟨rfl, rfl⟩))
    (fun os started H enc _ => sealOpens_lifted os started H enc)
#print axioms sealOpens_holds
end Go.Proofs.Ytoalabpbohkcjaa
