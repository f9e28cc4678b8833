/- The card of signetlaw.PatternWiths: for every name and all places of psks it returns true, and its arguments read as they did. -/
import Derived.Test.YtejejmhbhegneaaDoorRows
import Derived.Test.YtejejmhbhegneaaDoorTie
import Derived.Test.YtejejmhbhegneaaDoorCards
import Derived.Test.YtejejmhbhegneaaDoorKW5
import Derived.Test.YtejejmhbhegneaaDoorKW6
import Derived.Test.YtejejmhbhegneaaDoorKW4
import Derived.Test.YtejejmhbhegneaaDoorKW2
import Derived.Test.YtejejmhbhegneaaDoorKW3
import Derived.SevenTiedAt
import Derived.LaidMore
import Derived.Lay
import Derived.Stop.Joined
namespace Go.Proofs.YtejejmhbhegneaaDoor
open Go.ChangeShapes Go.WideShapes Go.ChangeAt Go.RowKit

theorem patternWiths_own : ownKnob Tryd.prog.godebug = none := by kernel_rfl
theorem patternWiths_laid : laidOutB Tryd.prog = true := by kernel_rfl
theorem patternWiths_und9 : Tryd.prog.underlying 9 = some (.string) := by kernel_rfl
theorem patternWiths_und22 : Tryd.prog.underlying 22 = some (.slice 3) := by kernel_rfl
theorem patternWiths_und3 : Tryd.prog.underlying 3 = some (.int .i64) := by kernel_rfl
theorem patternWiths_cel3 : Tryd.prog.cellsOf 3 = 1 := by kernel_rfl
theorem patternWiths_glob {W : World} (h : laidMetH Tryd.prog Rows.patternWithsRow.laid W) : MemR [(⟨1, arr .u8 256 asp, 77⟩ : Blk)] W := by
  have hv := laid_metH (by kernel_rfl) h
  exact (memR_cons (laid_strings_asciiSpace_rin (hv _ (List.mem_of_getElem? (i := 2) rfl))) memR_nil)
theorem patternWiths_all {G : Mem} (l : List Nat) (v : Value) (ps : List Int) (hl : ∀ b ∈ l, b < 256) (hv : Shows G 1 v ps.length (ps.map iv)) (hm : ps.length ≤ maxLen) : Fn Tryd.prog ((⟨1, arr .u8 256 asp, 77⟩ : Blk) :: G) 3 #[sv l, v] (.bool true) := by
  have hv2 : Shows ((⟨1, arr .u8 256 asp, 77⟩ : Blk) :: G) 1 v ps.length (ps.map iv) := hv.mono fun x hx => List.mem_cons_of_mem _ hx
  have hm2 : ps.length ≤ 9223372036854775807 := by simp only [maxLen] at hm; omega
  by_cases h0 : (pwith l ps).1 = 0
  · obtain ⟨_, h4, _⟩ := pwith_in h0
    have hs := pwith_short h0
    have s0 := (short_at (i := 0) hs.1).2
    have s1 := (short_at (i := 1) hs.1).2
    have t0 : (wq l ps 0).length ≤ 8 * ((pwith l ps).2.getD 0 []).length := toks_len _
    have t1 : (wq l ps 1).length ≤ 8 * ((pwith l ps).2.getD 1 []).length := toks_len _
    exact patternWithsI_ok v l ps (decide (l = nXF)) (wq l ps 0) (wq l ps 1) (wt l ps) hl hv2 ⟨by simp only [List.length_map, List.length_drop]; omega, by omega, by omega, by omega, fun q hq => by have := toks_small hs.1 q hq; omega⟩ (dwith_ok l v ps hl hv2 hm2 h0) (with_ok l v ps hl hv2 hm2 h0)
  · by_cases hp : ptext l = []
    · have h5 : (pwith l ps).1 = 5 := by rw [pwith, if_pos hp]
      exact patternWiths_err v l 5 (dwith_none l v hl hp) (with_err l v ps 5 hl hv2 hm2 h5 (by decide))
    · exact patternWiths_err v l _ (dwith_err l v ps _ hl hv2 hm2 hp rfl h0) (with_err l v ps _ hl hv2 hm2 rfl h0)

set_option maxRecDepth 100000 in
theorem patternWiths_lifted (os : Os) (started : os.Started) (H : Type) (enc : TypeId × Value → H) :
    ReturnsInHanded {} Tryd.checked os 3 .any (fun w args => (Rows.patternWithsSpec.pre enc Tryd.prog Tryd.f3 Rows.patternWithsRow.domain false w args ∧ laidMetH Tryd.prog Rows.patternWithsRow.laid w) ∧ sizedMet enc Tryd.prog Tryd.f3 (OpenSpec.ofChange Rows.patternWithsSpec) false w args)
      (Rows.patternWithsSpec.post enc Tryd.prog Tryd.f3 false true false false) := by
  refine returnsInHanded_of_change_and (C := Tryd.checked) (X := fun w _ => laidMetH Tryd.prog Rows.patternWithsRow.laid w) (fun _ _ _ hh h => h.of_heap hh) patternWiths_own started (by kernel_rfl) Tryd.func3
    (ChangeSpec.witness_shaped (enc := enc) (C := Tryd.checked) (os := os) (X := fun w _ => laidMetH Tryd.prog Rows.patternWithsRow.laid w) false (World.laidAll Tryd.prog os Rows.patternWithsRow.laid) #[.string ByteArray.empty, .slice none 0 0] 8 (World.laidAll_os _ _ _)
      (World.shaped_of_ZipB (by kernel_rfl) (by kernel_rfl)) (by kernel_rfl) (by kernel_rfl) (by kernel_rfl)
      (by rw [MakeChecks.laidMetH_plain _ _ _ (by kernel_rfl)]; exact laidMet_laidAll _ (by kernel_rfl) (by kernel_rfl))) ?_
  intro W base args ds gs before hval0 hW hc hwt hL _
  have hval : ∀ (j : Nat) t v, Tryd.f3.params[j]? = some t → args[j]? = some v → Value.okWide Tryd.prog W .any base t v := hval0
  have hW' := hW
  obtain ⟨p, q, hA0, hV, rfl, hfz, hnd⟩ := hW
  have hA : DataW.TrodAll enc Tryd.prog W 0 (fun _ => true) true Tryd.f3.params.toList args.toList ds p := hA0
  rw [Tryd.params3] at hA hval
  have hplt := DataW.TrodAll.lt hA
  obtain ⟨v0, v1, d0, d1, p0, p1, rfl, rfl, rfl, h0, h1⟩ := trodAll_two hA
  obtain ⟨rfl, rfl⟩ := trodVars_none hV
  have hk0 := h0
  have hk1 := h1
  obtain ⟨l0, rfl, hl0, hm0⟩ := open_str patternWiths_und9 (hval 0 9 v0 rfl rfl) h0
  obtain ⟨x1, G1, hx1, hG1⟩ := rep_open1 [22, 3] (by kernel_rfl) (by decide) patternWiths_und22 (hval 1 22 v1 rfl rfl) h1
  obtain ⟨w1, l1, hc1, hv1, hm1, _⟩ := rep_ints patternWiths_und22 patternWiths_und3 patternWiths_cel3 hx1
  obtain rfl : v1 = w1 := by injection hc1
  clear hA0 hval0
  simp only [List.append_nil] at hW'
  refine ((patternWiths_all (G := G1) l0 v1 l1 hl0 hv1 hm1) W (memR_app (patternWiths_glob hL) hG1)).mono fun e W' ⟨he, hb⟩ => ?_
  subst he
  exact ⟨_, rfl, _, _, _, [], _, [], hW', trodAll_mk1 (shut_bool Tryd.underlying4 _), trodAll_mk2 (Below.trod patternWiths_laid (by kernel_rfl) (of_decide_eq_true (by kernel_rfl)) hk0 hb (fun x hx => hplt x (by first | exact absurd hx List.not_mem_nil | simp [hx]))) (Below.trod patternWiths_laid (by kernel_rfl) (of_decide_eq_true (by kernel_rfl)) hk1 hb (fun x hx => hplt x (by first | exact absurd hx List.not_mem_nil | simp [hx]))), rfl, hb.frame _, fun h => by cases h⟩

theorem patternWiths_holds : Rows.PatternWithsSaid :=
  OpenClaim.holds_of_wide 3 Tryd.f3 rfl rfl rfl rfl rfl rfl rfl ⟨rfl, rfl, rfl, rfl, rfl⟩ rfl rfl rfl rfl rfl (by kernel_rfl) Tryd.func3 (by kernel_rfl)
    (of_decide_eq_true (by kernel_rfl)) (by unfold Func.isWrapper; first | (rw [if_pos (by decide +kernel)]; kernel_rfl) | (rw [if_neg (by decide +kernel)]; exact ⟨rfl, rfl⟩))
    (fun os started H enc _ => patternWiths_lifted os started H enc)
theorem patternWiths_card : Rows.PatternWithsCardSaid :=
  Claim7.holds_tied_plain_at .later [] [.data, .listed, .data, .pinned] true (true, "abcc41a5866173744392233e0a89f17f8a56ebd04b4e5f7859af495e89c627a0") false patternWiths_holds (fun _ h => by cases h) (by kernel_rfl) (fun _ h => by cases h) patternWiths_row_tie rfl ⟨rfl, rfl⟩ (by kernel_rfl) rfl
    (fun f fn hf hfn => by
      obtain rfl : f = 3 := Option.some.inj ((show Tryd.prog.funcNamed Tryd.f3.name = some 3 by kernel_rfl).symm.trans hf) |>.symm
      obtain rfl : fn = Tryd.f3 := (Option.some.inj (Tryd.func3.symm.trans hfn)).symm
      exact ⟨by kernel_rfl, fun j t ht => by
        rw [Tryd.params3] at ht
        have hm : t ∈ [9, 22] := by have h9 := Array.mem_of_getElem? ht; simpa using h9
        have hall : ([9, 22].all fun u => !Tryd.prog.wantsStandIn u) = true := by kernel_rfl
        exact (show Tryd.prog.wantsStandIn t = false by simpa using List.all_eq_true.1 hall t hm)⟩)
    (by kernel_rfl)
#print axioms patternWiths_card
end Go.Proofs.YtejejmhbhegneaaDoor
