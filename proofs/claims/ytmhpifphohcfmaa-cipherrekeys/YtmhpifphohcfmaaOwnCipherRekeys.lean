/- The law signetlaw.CipherRekeys, for every cipher: it returns true, and its argument reads as it did. -/
import Derived.Test.YtmhpifphohcfmaaRows
import Derived.Test.YtmhpifphohcfmaaK6
import Derived.Test.YtmhpifphohcfmaaK7
import Derived.Test.YtmhpifphohcfmaaK3
namespace Go.Proofs.Ytmhpifphohcfmaa
open Go.ChangeShapes Go.WideShapes Go.ChangeAt Go.RowKit

theorem cipherRekeys_own : ownKnob Try.prog.godebug = none := by kernel_rfl
theorem cipherRekeys_laid : laidOutB Try.prog = true := by kernel_rfl
theorem cipherRekeys_cts26 : Try.prog.cellTypes Try.prog.depth 26 = some [4, 5, 5, 5, 5, 5, 5, 5, 5, 5, 5, 5, 5, 5, 5, 5, 5, 5, 5, 5, 5, 5, 5, 5, 5, 5, 5, 5, 5, 5, 5, 5, 5, 24] := by kernel_rfl
theorem cipherRekeys_und26 : Try.prog.underlying 26 = some (.struct #[.mk "Has" 4 0 false "" "" 0, .mk "Key" 23 1 false "" "" 1, .mk "N" 24 33 false "" "" 40]) := by kernel_rfl
theorem cipherRekeys_cel26 : Try.prog.cellsOf 26 = 34 := by kernel_rfl
theorem cipherRekeys_und4 : Try.prog.underlying 4 = some (.bool) := by kernel_rfl
theorem cipherRekeys_und5 : Try.prog.underlying 5 = some (.int .u8) := by kernel_rfl
theorem cipherRekeys_und24 : Try.prog.underlying 24 = some (.int .u64) := by kernel_rfl
theorem cipherRekeys_all {G : Mem} (b : Bool) (k g : Nat → Nat) (hk : ∀ j, j < 32 → k j < 256) : Fn Try.prog G 6 #[.agg (cells 34 [pV (.bool b), pI .u8 32 k, pI .u64 1 g])] (.bool true) := by
  rw [CV_open]
  obtain ⟨n, hn⟩ : ∃ n, n = g 0 := ⟨_, rfl⟩
  rw [← hn]
  by_cases hok : okC b k n = false
  · exact cipherRekeys_fn b k n false (fun _ => 0) 0 9 (drekey_bad b k n hok) (rekeyed_bad b k n hok)
  have hok : okC b k n = true := by simpa using hok
  cases b
  · exact cipherRekeys_fn false k n false (fun _ => 0) 0 9 (drekey_none k n hok) (rekeyed_none k n hok)
  obtain ⟨k2, hk2⟩ : ∃ k2, k2 = rek k := ⟨_, rfl⟩
  have h1 := drekey_ok (G := G) k n hk
  have h2 := rekeyed_ok (G := G) k n hk
  rw [← hk2] at h1 h2
  exact cipherRekeys_fn true k n true k2 n 0 h1 h2

set_option maxRecDepth 100000 in
theorem cipherRekeys_lifted (os : Os) (started : os.Started) (H : Type) (enc : TypeId × Value → H) :
    ReturnsInHanded {} Try.checked os 6 .any (Rows.cipherRekeysSpec.pre6 enc Try.prog Try.f6 Rows.cipherRekeysRow.domain false) (Rows.cipherRekeysSpec.post enc Try.prog Try.f6 false true false false) := by
  refine returnsInHanded_of_change_sized (C := Try.checked) cipherRekeys_own started (by kernel_rfl) Try.func6
    (ChangeSpec.witness6 (enc := enc) (C := Try.checked) false ⟨#[], #[.agg (cells 34 [pV (.bool false), pI .u8 32 fun _ => 0, pI .u64 1 fun _ => 0])], []⟩ 8 (by kernel_rfl) (by kernel_rfl) (by kernel_rfl) (by kernel_rfl)) ?_
  intro W base args ds gs before hval0 hW hcnd hwt _
  have hval : ∀ (j : Nat) t v, Try.f6.params[j]? = some t → args[j]? = some v → Value.okWide Try.prog W .any base t v := hval0
  have hW' := hW
  obtain ⟨p, q, hA0, hV, rfl, hfz, hnd⟩ := hW
  have hA : DataW.TrodAll enc Try.prog W 0 (fun _ => true) true Try.f6.params.toList args.toList ds p := hA0
  rw [Try.params6] at hA hval
  have hplt := DataW.TrodAll.lt hA
  obtain ⟨v0, d0, rfl, rfl, h0⟩ := trodAll_one hA
  obtain ⟨rfl, rfl⟩ := trodVars_none hV
  have hk0 := h0
  obtain ⟨cs0, rfl, hn0, hcl0⟩ := open_cells cipherRekeys_und26 cipherRekeys_cts26 cipherRekeys_cel26 (hval 0 26 v0 rfl rfl)
  obtain ⟨b0_0, hq0_0⟩ := seg_bool hcl0 0 cipherRekeys_und4 (by decide)
  obtain ⟨g0_1, hq0_1, hg0_1⟩ := seg_nat hcl0 1 32 cipherRekeys_und5 has_u8 (by decide)
  obtain ⟨g0_2, hq0_2, hg0_2⟩ := seg_nat hcl0 33 1 cipherRekeys_und24 has_u64 (by decide)
  obtain rfl := cells_make (ps := [pV (.bool b0_0), pI .u8 32 g0_1, pI .u64 1 g0_2]) hn0 rfl ⟨hq0_0, hq0_1, hq0_2, trivial⟩
  clear hA0 hval0
  simp only [List.append_nil] at hW'
  refine ((cipherRekeys_all (G := []) b0_0 g0_1 g0_2 hg0_1) W (by simp [MemR])).mono fun e W' ⟨he, hb⟩ => ?_
  subst he
  exact ⟨_, rfl, _, _, _, [], _, [], hW', trodAll_mk1 (shut_bool Try.underlying4 _), trodAll_mk1 (Below.trod cipherRekeys_laid (by kernel_rfl) (of_decide_eq_true (by kernel_rfl)) hk0 hb (fun x hx => hplt x (by first | exact absurd hx List.not_mem_nil | simp [hx]))), rfl, hb.frame _, fun h => by cases h⟩

theorem cipherRekeys_holds : Rows.CipherRekeysSaid :=
  OpenClaim.holds_of_wide 6 Try.f6 rfl rfl rfl rfl rfl rfl rfl ⟨rfl, rfl, rfl, rfl, rfl⟩ rfl rfl rfl rfl rfl (by kernel_rfl) Try.func6 (by kernel_rfl)
    (of_decide_eq_true (by kernel_rfl)) (by unfold Func.isWrapper; first | (rw [if_pos (by decide +kernel)]; kernel_rfl) | (rw [if_neg (by decide +kernel)]; exact ⟨rfl, rfl⟩))
    (fun os started H enc _ => cipherRekeys_lifted os started H enc)
#print axioms cipherRekeys_holds
end Go.Proofs.Ytmhpifphohcfmaa
