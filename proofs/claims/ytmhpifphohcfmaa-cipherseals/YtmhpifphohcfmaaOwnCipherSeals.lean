/- The law signetlaw.CipherSeals, for every cipher and all bytes: it returns true, and its arguments read as they did. -/
import Derived.Test.YtmhpifphohcfmaaRows
import Derived.Test.YtmhpifphohcfmaaK6
import Derived.Test.YtmhpifphohcfmaaK7
import Derived.Test.YtmhpifphohcfmaaK3
import Derived.Test.YtmhpifphohcfmaaK4
namespace Go.Proofs.Ytmhpifphohcfmaa
open Go.ChangeShapes Go.WideShapes Go.ChangeAt Go.RowKit

theorem cipherSeals_own : ownKnob Try.prog.godebug = none := by kernel_rfl
theorem cipherSeals_laid : laidOutB Try.prog = true := by kernel_rfl
theorem cipherSeals_cts26 : Try.prog.cellTypes Try.prog.depth 26 = some [4, 5, 5, 5, 5, 5, 5, 5, 5, 5, 5, 5, 5, 5, 5, 5, 5, 5, 5, 5, 5, 5, 5, 5, 5, 5, 5, 5, 5, 5, 5, 5, 5, 24] := by kernel_rfl
theorem cipherSeals_und26 : Try.prog.underlying 26 = some (.struct #[.mk "Has" 4 0 false "" "" 0, .mk "Key" 23 1 false "" "" 1, .mk "N" 24 33 false "" "" 40]) := by kernel_rfl
theorem cipherSeals_cel26 : Try.prog.cellsOf 26 = 34 := by kernel_rfl
theorem cipherSeals_und4 : Try.prog.underlying 4 = some (.bool) := by kernel_rfl
theorem cipherSeals_und5 : Try.prog.underlying 5 = some (.int .u8) := by kernel_rfl
theorem cipherSeals_und24 : Try.prog.underlying 24 = some (.int .u64) := by kernel_rfl
theorem cipherSeals_und31 : Try.prog.underlying 31 = some (.slice 5) := by kernel_rfl
theorem cipherSeals_cel5 : Try.prog.cellsOf 5 = 1 := by kernel_rfl
theorem cipherSeals_byo5 : Try.prog.bytesOf 5 = 1 := by kernel_rfl
theorem cipherSeals_all {G : Mem} (b : Bool) (k g : Nat → Nat) (va vt : Value) (ad tx : List Nat) (hk : ∀ j, j < 32 → k j < 256) (hg : ∀ j, j < 1 → g j < 18446744073709551616) (hva : Shows G 1 va ad.length (ad.map by8)) (hvt : Shows G 1 vt tx.length (tx.map by8)) (hab : ∀ b ∈ ad, b < 256) (htb : ∀ b ∈ tx, b < 256) : Fn Try.prog G 4 #[.agg (cells 34 [pV (.bool b), pI .u8 32 k, pI .u64 1 g]), va, vt] (.bool true) := by
  rw [CV_open]
  have hn0 := hg 0 (by decide)
  obtain ⟨n, hn⟩ : ∃ n, n = g 0 := ⟨_, rfl⟩
  rw [← hn] at hn0 ⊢
  by_cases hok : okC b k n = false
  · exact cipherSeals_err b k n va vt 9 (dcseal_err b k n va vt 9 (dused_bad b k n va vt _ hok)) (used_bad false b k n va vt hok)
  have hok : okC b k n = true := by simpa using hok
  cases b
  · by_cases hl : 800 < tx.length
    · exact cipherSeals_err false k n va vt 1 (dcseal_err false k n va vt 1 (dused_pbig k n va vt _ tx hvt hok hl)) (used_pbig false k n va vt tx hvt hok hl)
    · exact cipherSeals_plain k n va vt tx hvt htb (by simp only [maxLen]; omega) (dcseal_ok false k n va vt false k n tx (by simp only [maxLen]; omega) (dused_plain k n va vt _ tx hvt hok (by omega))) (used_plain false k n va vt tx hvt hok (by omega))
  by_cases hov : n = 18446744073709551615
  · exact cipherSeals_err true k n va vt 11 (dcseal_err true k n va vt 11 (dused_over k n va vt _ hov)) (used_over false k n va vt hov)
  by_cases h1 : 200 < ad.length
  · exact cipherSeals_err true k n va vt 1 (dcseal_err true k n va vt 1 (dused_err_seal k n va vt (by omega) 1 (by decide) (dseal_big1 k (nonU n) va vt ad hva h1))) (used_err_false k n va vt (by omega) 1 (by decide) (sealed_big1 k (nonU n) va vt ad hva h1))
  by_cases h2 : 800 < tx.length
  · exact cipherSeals_err true k n va vt 1 (dcseal_err true k n va vt 1 (dused_err_seal k n va vt (by omega) 1 (by decide) (dseal_big2 k (nonU n) va vt ad tx hva hvt (by omega) h2))) (used_err_false k n va vt (by omega) 1 (by decide) (sealed_big2 k (nonU n) va vt ad tx hva hvt (by omega) h2))
  exact cipherSeals_ok k n va vt (sealL k (nonU n) ad tx) (sealL_lt _ _ _ _) (by rw [sealL_len]; simp only [maxLen]; omega) (dcseal_ok true k n va vt true k (n + 1) _ (by rw [sealL_len]; simp only [maxLen]; omega) (dused_ok_seal k n va vt (by omega) _ (by rw [sealL_len]; simp only [maxLen]; omega) (dseal_ok k (nonU n) va vt ad tx hk (nonU_lt n) hva hvt hab (by omega) (by omega)))) (used_ok_false k n va vt (by omega) _ (by rw [sealL_len]; simp only [maxLen]; omega) (sealed_ok k (nonU n) va vt ad tx hk (nonU_lt n) hva hvt hab (by omega) (by omega)))

set_option maxRecDepth 100000 in
theorem cipherSeals_lifted (os : Os) (started : os.Started) (H : Type) (enc : TypeId × Value → H) :
    ReturnsInHanded {} Try.checked os 4 .any (Rows.cipherSealsSpec.pre6 enc Try.prog Try.f4 Rows.cipherSealsRow.domain false) (Rows.cipherSealsSpec.post enc Try.prog Try.f4 false true false false) := by
  refine returnsInHanded_of_change_sized (C := Try.checked) cipherSeals_own started (by kernel_rfl) Try.func4
    (ChangeSpec.witness6 (enc := enc) (C := Try.checked) false ⟨#[], #[.agg (cells 34 [pV (.bool false), pI .u8 32 fun _ => 0, pI .u64 1 fun _ => 0]), .slice none 0 0, .slice none 0 0], []⟩ 8 (by kernel_rfl) (by kernel_rfl) (by kernel_rfl) (by kernel_rfl)) ?_
  intro W base args ds gs before hval0 hW hcnd hwt _
  have hval : ∀ (j : Nat) t v, Try.f4.params[j]? = some t → args[j]? = some v → Value.okWide Try.prog W .any base t v := hval0
  have hW' := hW
  obtain ⟨p, q, hA0, hV, rfl, hfz, hnd⟩ := hW
  have hA : DataW.TrodAll enc Try.prog W 0 (fun _ => true) true Try.f4.params.toList args.toList ds p := hA0
  rw [Try.params4] at hA hval
  have hplt := DataW.TrodAll.lt hA
  obtain ⟨v0, v1, v2, d0, d1, d2, p0, p1, p2, rfl, rfl, rfl, h0, h1, h2⟩ := trodAll_three hA
  obtain ⟨rfl, rfl⟩ := trodVars_none hV
  have hk0 := h0
  have hk1 := h1
  have hk2 := h2
  obtain ⟨cs0, rfl, hn0, hcl0⟩ := open_cells cipherSeals_und26 cipherSeals_cts26 cipherSeals_cel26 (hval 0 26 v0 rfl rfl)
  obtain ⟨b0_0, hq0_0⟩ := seg_bool hcl0 0 cipherSeals_und4 (by decide)
  obtain ⟨g0_1, hq0_1, hg0_1⟩ := seg_nat hcl0 1 32 cipherSeals_und5 has_u8 (by decide)
  obtain ⟨g0_2, hq0_2, hg0_2⟩ := seg_nat hcl0 33 1 cipherSeals_und24 has_u64 (by decide)
  obtain rfl := cells_make (ps := [pV (.bool b0_0), pI .u8 32 g0_1, pI .u64 1 g0_2]) hn0 rfl ⟨hq0_0, hq0_1, hq0_2, trivial⟩
  obtain ⟨l1, G1, hl1, hm1, hv1, hG1⟩ := open_bytes cipherSeals_und31 cipherSeals_und5 cipherSeals_cel5 (hval 1 31 v1 rfl rfl) h1
  have hs1 := open_sized cipherSeals_und31 cipherSeals_und5 cipherSeals_cel5 cipherSeals_byo5 hk1 (each_sized hwt (j := 1) rfl rfl) hv1
  obtain ⟨l2, G2, hl2, hm2, hv2, hG2⟩ := open_bytes cipherSeals_und31 cipherSeals_und5 cipherSeals_cel5 (hval 2 31 v2 rfl rfl) h2
  have hs2 := open_sized cipherSeals_und31 cipherSeals_und5 cipherSeals_cel5 cipherSeals_byo5 hk2 (each_sized hwt (j := 2) rfl rfl) hv2
  clear hA0 hval0
  simp only [List.append_nil] at hW'
  refine ((cipherSeals_all (G := G1 ++ G2) b0_0 g0_1 g0_2 v1 v2 l1 l2 hg0_1 hg0_2 (hv1.mono (fun x h => List.mem_append_left _ h)) (hv2.mono (fun x h => List.mem_append_right _ h)) hl1 hl2) W (memR_two hG1 hG2)).mono fun e W' ⟨he, hb⟩ => ?_
  subst he
  exact ⟨_, rfl, _, _, _, [], _, [], hW', trodAll_mk1 (shut_bool Try.underlying4 _), trodAll_mk3 (Below.trod cipherSeals_laid (by kernel_rfl) (of_decide_eq_true (by kernel_rfl)) hk0 hb (fun x hx => hplt x (by first | exact absurd hx List.not_mem_nil | simp [hx]))) (Below.trod cipherSeals_laid (by kernel_rfl) (of_decide_eq_true (by kernel_rfl)) hk1 hb (fun x hx => hplt x (by first | exact absurd hx List.not_mem_nil | simp [hx]))) (Below.trod cipherSeals_laid (by kernel_rfl) (of_decide_eq_true (by kernel_rfl)) hk2 hb (fun x hx => hplt x (by first | exact absurd hx List.not_mem_nil | simp [hx]))), rfl, hb.frame _, fun h => by cases h⟩

theorem cipherSeals_holds : Rows.CipherSealsSaid :=
  OpenClaim.holds_of_wide 4 Try.f4 rfl rfl rfl rfl rfl rfl rfl ⟨rfl, rfl, rfl, rfl, rfl⟩ rfl rfl rfl rfl rfl (by kernel_rfl) Try.func4 (by kernel_rfl)
    (of_decide_eq_true (by kernel_rfl)) (by unfold Func.isWrapper; first | (rw [if_pos (by decide +kernel)]; kernel_rfl) | (rw [if_neg (by decide +kernel)]; exact ⟨rfl, rfl⟩))
    (fun os started H enc _ => cipherSeals_lifted os started H enc)
#print axioms cipherSeals_holds
end Go.Proofs.Ytmhpifphohcfmaa
