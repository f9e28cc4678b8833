/- The law signetlaw.CipherOpens, for every cipher and all bytes: it returns true, and its arguments read as they did. -/
import Derived.Test.YtmhpifphohcfmaaRows
import Derived.Test.YtmhpifphohcfmaaK6
import Derived.Test.YtmhpifphohcfmaaK7
import Derived.Test.YtmhpifphohcfmaaK3
import Derived.Test.YtmhpifphohcfmaaK4
namespace Go.Proofs.Ytmhpifphohcfmaa
open Go.ChangeShapes Go.WideShapes Go.ChangeAt Go.RowKit

theorem cipherOpens_own : ownKnob Try.prog.godebug = none := by kernel_rfl
theorem cipherOpens_laid : laidOutB Try.prog = true := by kernel_rfl
theorem cipherOpens_cts26 : Try.prog.cellTypes Try.prog.depth 26 = some [4, 5, 5, 5, 5, 5, 5, 5, 5, 5, 5, 5, 5, 5, 5, 5, 5, 5, 5, 5, 5, 5, 5, 5, 5, 5, 5, 5, 5, 5, 5, 5, 5, 24] := by kernel_rfl
theorem cipherOpens_und26 : Try.prog.underlying 26 = some (.struct #[.mk "Has" 4 0 false "" "" 0, .mk "Key" 23 1 false "" "" 1, .mk "N" 24 33 false "" "" 40]) := by kernel_rfl
theorem cipherOpens_cel26 : Try.prog.cellsOf 26 = 34 := by kernel_rfl
theorem cipherOpens_und4 : Try.prog.underlying 4 = some (.bool) := by kernel_rfl
theorem cipherOpens_und5 : Try.prog.underlying 5 = some (.int .u8) := by kernel_rfl
theorem cipherOpens_und24 : Try.prog.underlying 24 = some (.int .u64) := by kernel_rfl
theorem cipherOpens_und31 : Try.prog.underlying 31 = some (.slice 5) := by kernel_rfl
theorem cipherOpens_cel5 : Try.prog.cellsOf 5 = 1 := by kernel_rfl
theorem cipherOpens_byo5 : Try.prog.bytesOf 5 = 1 := by kernel_rfl
theorem cipherOpens_all {G : Mem} (b : Bool) (k g : Nat → Nat) (va vt : Value) (ad tx : List Nat) (hk : ∀ j, j < 32 → k j < 256) (hg : ∀ j, j < 1 → g j < 18446744073709551616) (hva : Shows G 1 va ad.length (ad.map by8)) (hvt : Shows G 1 vt tx.length (tx.map by8)) (hab : ∀ b ∈ ad, b < 256) (htb : ∀ b ∈ tx, b < 256) : Fn Try.prog G 5 #[.agg (cells 34 [pV (.bool b), pI .u8 32 k, pI .u64 1 g]), va, vt] (.bool true) := by
  rw [CV_open]
  have hn0 := hg 0 (by decide)
  obtain ⟨n, hn⟩ : ∃ n, n = g 0 := ⟨_, rfl⟩
  rw [← hn] at hn0 ⊢
  by_cases hok : okC b k n = false
  · exact cipherOpens_err b k n va vt 9 (dcopen_err b k n va vt 9 (dused_bad b k n va vt _ hok)) (used_bad true b k n va vt hok)
  have hok : okC b k n = true := by simpa using hok
  cases b
  · by_cases hl : 800 < tx.length
    · exact cipherOpens_err false k n va vt 1 (dcopen_err false k n va vt 1 (dused_pbig k n va vt _ tx hvt hok hl)) (used_pbig true k n va vt tx hvt hok hl)
    · exact cipherOpens_plain k n va vt tx hvt htb (by simp only [maxLen]; omega) (dcopen_ok false k n va vt false k n tx (by simp only [maxLen]; omega) (dused_plain k n va vt _ tx hvt hok (by omega))) (used_plain true k n va vt tx hvt hok (by omega))
  by_cases hov : n = 18446744073709551615
  · exact cipherOpens_err true k n va vt 11 (dcopen_err true k n va vt 11 (dused_over k n va vt _ hov)) (used_over true k n va vt hov)
  by_cases h1 : 200 < ad.length
  · exact cipherOpens_err true k n va vt 1 (dcopen_err true k n va vt 1 (dused_err_open k n va vt (by omega) 1 (by decide) (dopen_big1 k (nonU n) va vt ad hva h1))) (used_err_true k n va vt (by omega) 1 (by decide) (unsealed_big1 k (nonU n) va vt ad hva h1))
  by_cases h2 : 816 < tx.length
  · exact cipherOpens_err true k n va vt 1 (dcopen_err true k n va vt 1 (dused_err_open k n va vt (by omega) 1 (by decide) (dopen_big2 k (nonU n) va vt ad tx hva hvt (by omega) h2))) (used_err_true k n va vt (by omega) 1 (by decide) (unsealed_big2 k (nonU n) va vt ad tx hva hvt (by omega) h2))
  by_cases h3 : tx.length < 16
  · exact cipherOpens_err true k n va vt 4 (dcopen_err true k n va vt 4 (dused_err_open k n va vt (by omega) 4 (by decide) (dopen_short k (nonU n) va vt ad tx hva hvt (by omega) h3))) (used_err_true k n va vt (by omega) 4 (by decide) (unsealed_short k (nonU n) va vt ad tx hva hvt (by omega) h3))
  by_cases ho : ¬ opensL k (nonU n) ad tx
  · exact cipherOpens_err true k n va vt 10 (dcopen_err true k n va vt 10 (dused_err_open k n va vt (by omega) 10 (by decide) (dopen_auth k (nonU n) va vt ad tx hk (nonU_lt n) hva hvt hab htb (by omega) (by omega) (by omega) ho))) (used_err_true k n va vt (by omega) 10 (by decide) (unsealed_auth k (nonU n) va vt ad tx hk (nonU_lt n) hva hvt hab htb (by omega) (by omega) (by omega) ho))
  have ho : opensL k (nonU n) ad tx := Classical.not_not.1 ho
  exact cipherOpens_ok k n va vt (openL k (nonU n) tx) (strl_lt _ _ _ _ _) (by rw [openL_len]; simp only [maxLen]; omega) (dcopen_ok true k n va vt true k (n + 1) _ (by rw [openL_len]; simp only [maxLen]; omega) (dused_ok_open k n va vt (by omega) _ (by rw [openL_len]; simp only [maxLen]; omega) (dopen_ok k (nonU n) va vt ad tx hk (nonU_lt n) hva hvt hab htb (by omega) (by omega) (by omega) ho))) (used_ok_true k n va vt (by omega) _ (by rw [openL_len]; simp only [maxLen]; omega) (unsealed_ok k (nonU n) va vt ad tx hk (nonU_lt n) hva hvt hab htb (by omega) (by omega) (by omega) ho))

set_option maxRecDepth 100000 in
theorem cipherOpens_lifted (os : Os) (started : os.Started) (H : Type) (enc : TypeId × Value → H) :
    ReturnsInHanded {} Try.checked os 5 .any (Rows.cipherOpensSpec.pre6 enc Try.prog Try.f5 Rows.cipherOpensRow.domain false) (Rows.cipherOpensSpec.post enc Try.prog Try.f5 false true false false) := by
  refine returnsInHanded_of_change_sized (C := Try.checked) cipherOpens_own started (by kernel_rfl) Try.func5
    (ChangeSpec.witness6 (enc := enc) (C := Try.checked) false ⟨#[], #[.agg (cells 34 [pV (.bool false), pI .u8 32 fun _ => 0, pI .u64 1 fun _ => 0]), .slice none 0 0, .slice none 0 0], []⟩ 8 (by kernel_rfl) (by kernel_rfl) (by kernel_rfl) (by kernel_rfl)) ?_
  intro W base args ds gs before hval0 hW hcnd hwt _
  have hval : ∀ (j : Nat) t v, Try.f5.params[j]? = some t → args[j]? = some v → Value.okWide Try.prog W .any base t v := hval0
  have hW' := hW
  obtain ⟨p, q, hA0, hV, rfl, hfz, hnd⟩ := hW
  have hA : DataW.TrodAll enc Try.prog W 0 (fun _ => true) true Try.f5.params.toList args.toList ds p := hA0
  rw [Try.params5] at hA hval
  have hplt := DataW.TrodAll.lt hA
  obtain ⟨v0, v1, v2, d0, d1, d2, p0, p1, p2, rfl, rfl, rfl, h0, h1, h2⟩ := trodAll_three hA
  obtain ⟨rfl, rfl⟩ := trodVars_none hV
  have hk0 := h0
  have hk1 := h1
  have hk2 := h2
  obtain ⟨cs0, rfl, hn0, hcl0⟩ := open_cells cipherOpens_und26 cipherOpens_cts26 cipherOpens_cel26 (hval 0 26 v0 rfl rfl)
  obtain ⟨b0_0, hq0_0⟩ := seg_bool hcl0 0 cipherOpens_und4 (by decide)
  obtain ⟨g0_1, hq0_1, hg0_1⟩ := seg_nat hcl0 1 32 cipherOpens_und5 has_u8 (by decide)
  obtain ⟨g0_2, hq0_2, hg0_2⟩ := seg_nat hcl0 33 1 cipherOpens_und24 has_u64 (by decide)
  obtain rfl := cells_make (ps := [pV (.bool b0_0), pI .u8 32 g0_1, pI .u64 1 g0_2]) hn0 rfl ⟨hq0_0, hq0_1, hq0_2, trivial⟩
  obtain ⟨l1, G1, hl1, hm1, hv1, hG1⟩ := open_bytes cipherOpens_und31 cipherOpens_und5 cipherOpens_cel5 (hval 1 31 v1 rfl rfl) h1
  have hs1 := open_sized cipherOpens_und31 cipherOpens_und5 cipherOpens_cel5 cipherOpens_byo5 hk1 (each_sized hwt (j := 1) rfl rfl) hv1
  obtain ⟨l2, G2, hl2, hm2, hv2, hG2⟩ := open_bytes cipherOpens_und31 cipherOpens_und5 cipherOpens_cel5 (hval 2 31 v2 rfl rfl) h2
  have hs2 := open_sized cipherOpens_und31 cipherOpens_und5 cipherOpens_cel5 cipherOpens_byo5 hk2 (each_sized hwt (j := 2) rfl rfl) hv2
  clear hA0 hval0
  simp only [List.append_nil] at hW'
  refine ((cipherOpens_all (G := G1 ++ G2) b0_0 g0_1 g0_2 v1 v2 l1 l2 hg0_1 hg0_2 (hv1.mono (fun x h => List.mem_append_left _ h)) (hv2.mono (fun x h => List.mem_append_right _ h)) hl1 hl2) W (memR_two hG1 hG2)).mono fun e W' ⟨he, hb⟩ => ?_
  subst he
  exact ⟨_, rfl, _, _, _, [], _, [], hW', trodAll_mk1 (shut_bool Try.underlying4 _), trodAll_mk3 (Below.trod cipherOpens_laid (by kernel_rfl) (of_decide_eq_true (by kernel_rfl)) hk0 hb (fun x hx => hplt x (by first | exact absurd hx List.not_mem_nil | simp [hx]))) (Below.trod cipherOpens_laid (by kernel_rfl) (of_decide_eq_true (by kernel_rfl)) hk1 hb (fun x hx => hplt x (by first | exact absurd hx List.not_mem_nil | simp [hx]))) (Below.trod cipherOpens_laid (by kernel_rfl) (of_decide_eq_true (by kernel_rfl)) hk2 hb (fun x hx => hplt x (by first | exact absurd hx List.not_mem_nil | simp [hx]))), rfl, hb.frame _, fun h => by cases h⟩

theorem cipherOpens_holds : Rows.CipherOpensSaid :=
  OpenClaim.holds_of_wide 5 Try.f5 rfl rfl rfl rfl rfl rfl rfl ⟨rfl, rfl, rfl, rfl, rfl⟩ rfl rfl rfl rfl rfl (by kernel_rfl) Try.func5 (by kernel_rfl)
    (of_decide_eq_true (by kernel_rfl)) (by unfold Func.isWrapper; first | (rw [if_pos (by decide +kernel)]; kernel_rfl) | (rw [if_neg (by decide +kernel)]; exact ⟨rfl, rfl⟩))
    (fun os started H enc _ => cipherOpens_lifted os started H enc)
#print axioms cipherOpens_holds
end Go.Proofs.Ytmhpifphohcfmaa
