/- The law signetlaw.PolyEnds, for every state of a sum: it returns true, and its argument reads as it did. -/
import Derived.Test.YtmnmhmpklknleaaRows
import Derived.Test.YtmnmhmpklknleaaK5
import Derived.Test.YtmnmhmpklknleaaK7
namespace Go.Proofs.Ytmnmhmpklknleaa
open Go.ChangeShapes Go.WideShapes Go.ChangeAt Go.RowKit

theorem polyEnds_own : ownKnob Try.prog.godebug = none := by kernel_rfl
theorem polyEnds_laid : laidOutB Try.prog = true := by kernel_rfl
theorem polyEnds_cts28 : Try.prog.cellTypes Try.prog.depth 28 = some [23, 23, 23, 23, 23, 23, 23, 5, 5, 5, 5, 5, 5, 5, 5, 5, 5, 5, 5, 5, 5, 5, 5, 3] := by kernel_rfl
theorem polyEnds_und28 : Try.prog.underlying 28 = some (.struct #[.mk "R" 24 0 false "" "" 0, .mk "Pad" 24 2 false "" "" 16, .mk "Acc" 25 4 false "" "" 32, .mk "Held" 26 7 false "" "" 56, .mk "N" 3 23 false "" "" 72]) := by kernel_rfl
theorem polyEnds_cel28 : Try.prog.cellsOf 28 = 24 := by kernel_rfl
theorem polyEnds_und23 : Try.prog.underlying 23 = some (.int .u64) := by kernel_rfl
theorem polyEnds_und5 : Try.prog.underlying 5 = some (.int .u8) := by kernel_rfl
theorem polyEnds_und3 : Try.prog.underlying 3 = some (.int .i64) := by kernel_rfl
theorem polyEnds_all {G : Mem} (r p a h : Nat → Nat) (n : Int) (hr : ∀ j, j < 2 → r j < 18446744073709551616) (hp : ∀ j, j < 2 → p j < 18446744073709551616) (ha : ∀ j, j < 3 → a j < 18446744073709551616) (hh : ∀ j, j < 16 → h j < 256) : Fn Try.prog G 5 #[PV r p a h n] (.bool true) := by
  have hr0 := hr 0 (by decide)
  have hr1 := hr 1 (by decide)
  have hp0 := hp 0 (by decide)
  have hp1 := hp 1 (by decide)
  have ha0 := ha 0 (by decide)
  have ha1 := ha 1 (by decide)
  have ha2 := ha 2 (by decide)
  by_cases hok : (okcd r a n && okh n h 16) = true
  · obtain ⟨hR, ⟨k, rfl, hk, hz⟩, hA, hw⟩ := ok_open hok
    have hA2 : w3 a < 2 ^ 130 := Nat.lt_trans hA QQ_lt
    have hRs := k3_small hr0 hr1 hR
    have e : PV r p a h (k : Int) = PV r p (wd (w3 a)) h (k : Int) := PV_congr (fun _ _ => rfl) (fun _ _ => rfl) hw (fun _ _ => rfl) rfl
    have hok2 := ok_make (n := k) hR hA hk hz
    rw [e]
    by_cases h0 : k = 0
    · exact polyEnds_fn r p (wd (w3 a)) h k _ 0 (dend_zero r p (w3 a) h k hr0 hr1 hp0 hp1 h0 hok2) (ended_zero r p (w3 a) h k hr0 hr1 hp0 hp1 h0 hok2)
    · exact polyEnds_fn r p (wd (w3 a)) h k _ 0 (dend_some r p (w3 a) h k hr0 hr1 hp0 hp1 hRs hA2 hh hz (by omega) hk hok2) (ended_some r p (w3 a) h k hr0 hr1 hp0 hp1 hA2 hh (by omega) hk hok2)
  · exact polyEnds_fn r p a h n _ 9 (dend_bad r p a h n ha0 ha1 ha2 hr0 hr1 hok) (ended_bad r p a h n ha0 ha1 hr0 hr1 hok)

set_option maxRecDepth 100000 in
theorem polyEnds_lifted (os : Os) (started : os.Started) (H : Type) (enc : TypeId × Value → H) :
    ReturnsInHanded {} Try.checked os 5 .any (Rows.polyEndsSpec.pre6 enc Try.prog Try.f5 Rows.polyEndsRow.domain false) (Rows.polyEndsSpec.post enc Try.prog Try.f5 false true false false) := by
  refine returnsInHanded_of_change_sized (C := Try.checked) polyEnds_own started (by kernel_rfl) Try.func5
    (ChangeSpec.witness6 (enc := enc) (C := Try.checked) false ⟨#[], #[.agg (cells 24 [pI .u64 2 fun _ => 0, pI .u64 2 fun _ => 0, pI .u64 3 fun _ => 0, pI .u8 16 fun _ => 0, pV (.int .i64 0)])], []⟩ 8 (by kernel_rfl) (by kernel_rfl) (by kernel_rfl) (by kernel_rfl)) ?_
  intro W base args ds gs before hval0 hW hcnd hwt _
  have hval : ∀ (j : Nat) t v, Try.f5.params[j]? = some t → args[j]? = some v → Value.okWide Try.prog W .any base t v := hval0
  have hW' := hW
  obtain ⟨p, q, hA0, hV, rfl, hfz, hnd⟩ := hW
  have hA : DataW.TrodAll enc Try.prog W 0 (fun _ => true) true Try.f5.params.toList args.toList ds p := hA0
  rw [Try.params5] at hA hval
  have hplt := DataW.TrodAll.lt hA
  obtain ⟨v0, d0, rfl, rfl, h0⟩ := trodAll_one hA
  obtain ⟨rfl, rfl⟩ := trodVars_none hV
  have hk0 := h0
  obtain ⟨cs0, rfl, hn0, hcl0⟩ := open_cells polyEnds_und28 polyEnds_cts28 polyEnds_cel28 (hval 0 28 v0 rfl rfl)
  obtain ⟨g0_0, hq0_0, hg0_0⟩ := seg_nat hcl0 0 2 polyEnds_und23 has_u64 (by decide)
  obtain ⟨g0_1, hq0_1, hg0_1⟩ := seg_nat hcl0 2 2 polyEnds_und23 has_u64 (by decide)
  obtain ⟨g0_2, hq0_2, hg0_2⟩ := seg_nat hcl0 4 3 polyEnds_und23 has_u64 (by decide)
  obtain ⟨g0_3, hq0_3, hg0_3⟩ := seg_nat hcl0 7 16 polyEnds_und5 has_u8 (by decide)
  obtain ⟨z0_4, hq0_4, hz0_4⟩ := seg_int hcl0 23 polyEnds_und3 (by decide)
  obtain rfl := cells_make (ps := [pI .u64 2 g0_0, pI .u64 2 g0_1, pI .u64 3 g0_2, pI .u8 16 g0_3, pV (.int .i64 z0_4)]) hn0 rfl ⟨hq0_0, hq0_1, hq0_2, hq0_3, hq0_4, trivial⟩
  clear hA0 hval0
  simp only [List.append_nil] at hW'
  refine ((polyEnds_all (G := []) g0_0 g0_1 g0_2 g0_3 z0_4 hg0_0 hg0_1 hg0_2 hg0_3) W (by simp [MemR])).mono fun e W' ⟨he, hb⟩ => ?_
  subst he
  exact ⟨_, rfl, _, _, _, [], _, [], hW', trodAll_mk1 (shut_bool Try.underlying4 _), trodAll_mk1 (Below.trod polyEnds_laid (by kernel_rfl) (of_decide_eq_true (by kernel_rfl)) hk0 hb (fun x hx => hplt x (by first | exact absurd hx List.not_mem_nil | simp [hx]))), rfl, hb.frame _, fun h => by cases h⟩

theorem polyEnds_holds : Rows.PolyEndsSaid :=
  OpenClaim.holds_of_wide 5 Try.f5 rfl rfl rfl rfl rfl rfl rfl ⟨rfl, rfl, rfl, rfl, rfl⟩ rfl rfl rfl rfl rfl (by kernel_rfl) Try.func5 (by kernel_rfl)
    (of_decide_eq_true (by kernel_rfl)) (by unfold Func.isWrapper; first | (rw [if_pos (by decide +kernel)]; kernel_rfl) | (rw [if_neg (by decide +kernel)]; exact ⟨rfl, rfl⟩))
    (fun os started H enc _ => polyEnds_lifted os started H enc)
#print axioms polyEnds_holds
end Go.Proofs.Ytmnmhmpklknleaa
