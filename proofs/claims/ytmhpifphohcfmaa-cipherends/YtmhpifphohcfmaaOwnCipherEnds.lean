/- The law signetkeep.CipherEnds, for every key, all bytes and every int: it returns true, and its arguments read as they did. -/
import Derived.Test.YtmhpifphohcfmaaRows
import Derived.Test.YtmhpifphohcfmaaK6
import Derived.Test.YtmhpifphohcfmaaK7
import Derived.Test.YtmhpifphohcfmaaK3
namespace Go.Proofs.Ytmhpifphohcfmaa
open Go.ChangeShapes Go.WideShapes Go.ChangeAt Go.RowKit

theorem cipherEnds_own : ownKnob Try.prog.godebug = none := by kernel_rfl
theorem cipherEnds_laid : laidOutB Try.prog = true := by kernel_rfl
theorem cipherEnds_und22 : Try.prog.underlying 22 = some (.array 32 5) := by kernel_rfl
theorem cipherEnds_und5 : Try.prog.underlying 5 = some (.int .u8) := by kernel_rfl
theorem cipherEnds_cel5 : Try.prog.cellsOf 5 = 1 := by kernel_rfl
theorem cipherEnds_cel22 : Try.prog.cellsOf 22 = 32 := by kernel_rfl
theorem cipherEnds_und31 : Try.prog.underlying 31 = some (.slice 5) := by kernel_rfl
theorem cipherEnds_byo5 : Try.prog.bytesOf 5 = 1 := by kernel_rfl
theorem cipherEnds_und3 : Try.prog.underlying 3 = some (.int .i64) := by kernel_rfl
theorem cipherEnds_all {G : Mem} (f : Nat → Nat) (hf : ∀ j, j < 32 → f j < 256) (v : Value) (l : List Nat) (z : Int) (hv : Shows G 1 v l.length (l.map by8)) (hb : ∀ b ∈ l, b < 256) : Fn Try.prog G 8 #[.agg (arr .u8 32 f), v, .int .i64 z] (.bool true) := by
  have h2 := pkn_lt z (show 0 < 2 by decide)
  by_cases hz : pkn z 2 = 0
  · exact cipherEnds_0 f v l z hv hb hz dBg8 dOv8 dPl8 dBd8 dRn8
  · exact cipherEnds_1 f hf v l z hv hb (by omega) dBg8 dSl8 dPl8 dBd8 dRn8

set_option maxRecDepth 100000 in
theorem cipherEnds_lifted (os : Os) (started : os.Started) (H : Type) (enc : TypeId × Value → H) :
    ReturnsInHanded {} Try.checked os 8 .any (Rows.cipherEndsSpec.pre6 enc Try.prog Try.f8 Rows.cipherEndsRow.domain false) (Rows.cipherEndsSpec.post enc Try.prog Try.f8 false true false false) := by
  refine returnsInHanded_of_change_sized (C := Try.checked) cipherEnds_own started (by kernel_rfl) Try.func8
    (ChangeSpec.witness6 (enc := enc) (C := Try.checked) false ⟨#[], #[.agg (arr .u8 32 fun _ => 0), .slice none 0 0, .int .i64 0], []⟩ 8 (by kernel_rfl) (by kernel_rfl) (by kernel_rfl) (by kernel_rfl)) ?_
  intro W base args ds gs before hval0 hW hcnd hwt _
  have hval : ∀ (j : Nat) t v, Try.f8.params[j]? = some t → args[j]? = some v → Value.okWide Try.prog W .any base t v := hval0
  have hW' := hW
  obtain ⟨p, q, hA0, hV, rfl, hfz, hnd⟩ := hW
  have hA : DataW.TrodAll enc Try.prog W 0 (fun _ => true) true Try.f8.params.toList args.toList ds p := hA0
  rw [Try.params8] at hA hval
  have hplt := DataW.TrodAll.lt hA
  obtain ⟨v0, v1, v2, d0, d1, d2, p0, p1, p2, rfl, rfl, rfl, h0, h1, h2⟩ := trodAll_three hA
  obtain ⟨rfl, rfl⟩ := trodVars_none hV
  have hk0 := h0
  have hk1 := h1
  have hk2 := h2
  obtain ⟨f0, rfl, hf0, rfl⟩ := open_arr cipherEnds_und22 cipherEnds_und5 cipherEnds_cel5 cipherEnds_cel22 wf_u8 (hval 0 22 v0 rfl rfl) h0
  obtain ⟨l1, G1, hl1, hm1, hv1, hG1⟩ := open_bytes cipherEnds_und31 cipherEnds_und5 cipherEnds_cel5 (hval 1 31 v1 rfl rfl) h1
  have hs1 := open_sized cipherEnds_und31 cipherEnds_und5 cipherEnds_cel5 cipherEnds_byo5 hk1 (each_sized hwt (j := 1) rfl rfl) hv1
  obtain ⟨z2, rfl, rfl, rfl, wf2⟩ := open_int cipherEnds_und3 (hval 2 3 v2 rfl rfl) h2
  clear hA0 hval0
  simp only [List.append_nil] at hW'
  refine ((cipherEnds_all (G := G1) f0 hf0 v1 l1 z2 hv1 hl1) W hG1).mono fun e W' ⟨he, hb⟩ => ?_
  subst he
  exact ⟨_, rfl, _, _, _, [], _, [], hW', trodAll_mk1 (shut_bool Try.underlying4 _), trodAll_mk3 (Below.trod cipherEnds_laid (by kernel_rfl) (of_decide_eq_true (by kernel_rfl)) hk0 hb (fun x hx => hplt x (by first | exact absurd hx List.not_mem_nil | simp [hx]))) (Below.trod cipherEnds_laid (by kernel_rfl) (of_decide_eq_true (by kernel_rfl)) hk1 hb (fun x hx => hplt x (by first | exact absurd hx List.not_mem_nil | simp [hx]))) (Below.trod cipherEnds_laid (by kernel_rfl) (of_decide_eq_true (by kernel_rfl)) hk2 hb (fun x hx => hplt x (by first | exact absurd hx List.not_mem_nil | simp [hx]))), rfl, hb.frame _, fun h => by cases h⟩

theorem cipherEnds_holds : Rows.CipherEndsSaid :=
  OpenClaim.holds_of_wide 8 Try.f8 rfl rfl rfl rfl rfl rfl rfl ⟨rfl, rfl, rfl, rfl, rfl⟩ rfl rfl rfl rfl rfl (by kernel_rfl) Try.func8 (by kernel_rfl)
    (of_decide_eq_true (by kernel_rfl)) (by unfold Func.isWrapper; first | (rw [if_pos (by decide +kernel)]; kernel_rfl) | (rw [if_neg (by decide +kernel)]; exact ⟨rfl, rfl⟩))
    (fun os started H enc _ => cipherEnds_lifted os started H enc)
#print axioms cipherEnds_holds
end Go.Proofs.Ytmhpifphohcfmaa
