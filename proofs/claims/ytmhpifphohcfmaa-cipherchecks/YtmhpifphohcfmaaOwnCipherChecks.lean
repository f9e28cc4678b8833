/- The law signetlaw.CipherChecks, for every key and every cipher: it returns true, and its arguments read as they did. -/
import Derived.Test.YtmhpifphohcfmaaRows
import Derived.Test.YtmhpifphohcfmaaK6
import Derived.Test.YtmhpifphohcfmaaK7
import Derived.Test.YtmhpifphohcfmaaK3
namespace Go.Proofs.Ytmhpifphohcfmaa
open Go.ChangeShapes Go.WideShapes Go.ChangeAt Go.RowKit

theorem cipherChecks_own : ownKnob Try.prog.godebug = none := by kernel_rfl
theorem cipherChecks_laid : laidOutB Try.prog = true := by kernel_rfl
theorem cipherChecks_und22 : Try.prog.underlying 22 = some (.array 32 5) := by kernel_rfl
theorem cipherChecks_und5 : Try.prog.underlying 5 = some (.int .u8) := by kernel_rfl
theorem cipherChecks_cel5 : Try.prog.cellsOf 5 = 1 := by kernel_rfl
theorem cipherChecks_cel22 : Try.prog.cellsOf 22 = 32 := by kernel_rfl
theorem cipherChecks_cts26 : Try.prog.cellTypes Try.prog.depth 26 = some [4, 5, 5, 5, 5, 5, 5, 5, 5, 5, 5, 5, 5, 5, 5, 5, 5, 5, 5, 5, 5, 5, 5, 5, 5, 5, 5, 5, 5, 5, 5, 5, 5, 24] := by kernel_rfl
theorem cipherChecks_und26 : Try.prog.underlying 26 = some (.struct #[.mk "Has" 4 0 false "" "" 0, .mk "Key" 23 1 false "" "" 1, .mk "N" 24 33 false "" "" 40]) := by kernel_rfl
theorem cipherChecks_cel26 : Try.prog.cellsOf 26 = 34 := by kernel_rfl
theorem cipherChecks_und4 : Try.prog.underlying 4 = some (.bool) := by kernel_rfl
theorem cipherChecks_und24 : Try.prog.underlying 24 = some (.int .u64) := by kernel_rfl
theorem cipherChecks_all {G : Mem} (f : Nat → Nat) (b : Bool) (k g : Nat → Nat) : Fn Try.prog G 3 #[.agg (arr .u8 32 f), .agg (cells 34 [pV (.bool b), pI .u8 32 k, pI .u64 1 g])] (.bool true) := by
  rw [CV_open]
  exact cipherChecks_fn f b k (g 0) (dbeg8_fn f) (dchk8_fn b k (g 0))

set_option maxRecDepth 100000 in
theorem cipherChecks_lifted (os : Os) (started : os.Started) (H : Type) (enc : TypeId × Value → H) :
    ReturnsInHanded {} Try.checked os 3 .any (Rows.cipherChecksSpec.pre6 enc Try.prog Try.f3 Rows.cipherChecksRow.domain false) (Rows.cipherChecksSpec.post enc Try.prog Try.f3 false true false false) := by
  refine returnsInHanded_of_change_sized (C := Try.checked) cipherChecks_own started (by kernel_rfl) Try.func3
    (ChangeSpec.witness6 (enc := enc) (C := Try.checked) false ⟨#[], #[.agg (arr .u8 32 fun _ => 0), .agg (cells 34 [pV (.bool false), pI .u8 32 fun _ => 0, pI .u64 1 fun _ => 0])], []⟩ 8 (by kernel_rfl) (by kernel_rfl) (by kernel_rfl) (by kernel_rfl)) ?_
  intro W base args ds gs before hval0 hW hcnd hwt _
  have hval : ∀ (j : Nat) t v, Try.f3.params[j]? = some t → args[j]? = some v → Value.okWide Try.prog W .any base t v := hval0
  have hW' := hW
  obtain ⟨p, q, hA0, hV, rfl, hfz, hnd⟩ := hW
  have hA : DataW.TrodAll enc Try.prog W 0 (fun _ => true) true Try.f3.params.toList args.toList ds p := hA0
  rw [Try.params3] at hA hval
  have hplt := DataW.TrodAll.lt hA
  obtain ⟨v0, v1, d0, d1, p0, p1, rfl, rfl, rfl, h0, h1⟩ := trodAll_two hA
  obtain ⟨rfl, rfl⟩ := trodVars_none hV
  have hk0 := h0
  have hk1 := h1
  obtain ⟨f0, rfl, hf0, rfl⟩ := open_arr cipherChecks_und22 cipherChecks_und5 cipherChecks_cel5 cipherChecks_cel22 wf_u8 (hval 0 22 v0 rfl rfl) h0
  obtain ⟨cs1, rfl, hn1, hcl1⟩ := open_cells cipherChecks_und26 cipherChecks_cts26 cipherChecks_cel26 (hval 1 26 v1 rfl rfl)
  obtain ⟨b1_0, hq1_0⟩ := seg_bool hcl1 0 cipherChecks_und4 (by decide)
  obtain ⟨g1_1, hq1_1, hg1_1⟩ := seg_nat hcl1 1 32 cipherChecks_und5 has_u8 (by decide)
  obtain ⟨g1_2, hq1_2, hg1_2⟩ := seg_nat hcl1 33 1 cipherChecks_und24 has_u64 (by decide)
  obtain rfl := cells_make (ps := [pV (.bool b1_0), pI .u8 32 g1_1, pI .u64 1 g1_2]) hn1 rfl ⟨hq1_0, hq1_1, hq1_2, trivial⟩
  clear hA0 hval0
  simp only [List.append_nil] at hW'
  refine ((cipherChecks_all (G := []) f0 b1_0 g1_1 g1_2) W (by simp [MemR])).mono fun e W' ⟨he, hb⟩ => ?_
  subst he
  exact ⟨_, rfl, _, _, _, [], _, [], hW', trodAll_mk1 (shut_bool Try.underlying4 _), trodAll_mk2 (Below.trod cipherChecks_laid (by kernel_rfl) (of_decide_eq_true (by kernel_rfl)) hk0 hb (fun x hx => hplt x (by first | exact absurd hx List.not_mem_nil | simp [hx]))) (Below.trod cipherChecks_laid (by kernel_rfl) (of_decide_eq_true (by kernel_rfl)) hk1 hb (fun x hx => hplt x (by first | exact absurd hx List.not_mem_nil | simp [hx]))), rfl, hb.frame _, fun h => by cases h⟩

theorem cipherChecks_holds : Rows.CipherChecksSaid :=
  OpenClaim.holds_of_wide 3 Try.f3 rfl rfl rfl rfl rfl rfl rfl ⟨rfl, rfl, rfl, rfl, rfl⟩ rfl rfl rfl rfl rfl (by kernel_rfl) Try.func3 (by kernel_rfl)
    (of_decide_eq_true (by kernel_rfl)) (by unfold Func.isWrapper; first | (rw [if_pos (by decide +kernel)]; kernel_rfl) | (rw [if_neg (by decide +kernel)]; exact ⟨rfl, rfl⟩))
    (fun os started H enc _ => cipherChecks_lifted os started H enc)
#print axioms cipherChecks_holds
end Go.Proofs.Ytmhpifphohcfmaa
