/- The card of signetlaw.PatternShows: for every pattern it returns true, and its argument reads as it did. -/
import Derived.Test.YtejejmhbhegneaaDoorRows
import Derived.Test.YtejejmhbhegneaaDoorTie
import Derived.Test.YtejejmhbhegneaaDoorCards
import Derived.Test.YtejejmhbhegneaaDoorKW8
import Derived.Test.YtejejmhbhegneaaDoorKW4
import Derived.Test.YtejejmhbhegneaaDoorKW2
import Derived.SevenTiedAt
import Derived.LaidMore
import Derived.Lay
import Derived.Stop.Joined
namespace Go.Proofs.YtejejmhbhegneaaDoor
open Go.ChangeShapes Go.WideShapes Go.ChangeAt Go.RowKit

theorem patternShows_own : ownKnob Tryd.prog.godebug = none := by kernel_rfl
theorem patternShows_laid : laidOutB Tryd.prog = true := by kernel_rfl
theorem patternShows_cts26 : Tryd.prog.cellTypes Tryd.prog.depth 26 = some [9, 4, 22, 22, 22, 24] := by kernel_rfl
theorem patternShows_und26 : Tryd.prog.underlying 26 = some (.struct #[.mk "Base" 9 0 false "" "" 0, .mk "Late" 4 1 false "" "" 16, .mk "Psks" 22 2 false "" "" 24, .mk "Pre" 23 3 false "" "" 48, .mk "Turns" 24 5 false "" "" 96]) := by kernel_rfl
theorem patternShows_cel26 : Tryd.prog.cellsOf 26 = 6 := by kernel_rfl
theorem patternShows_und9 : Tryd.prog.underlying 9 = some (.string) := by kernel_rfl
theorem patternShows_und4 : Tryd.prog.underlying 4 = some (.bool) := by kernel_rfl
theorem patternShows_und22 : Tryd.prog.underlying 22 = some (.slice 3) := by kernel_rfl
theorem patternShows_und23 : Tryd.prog.underlying 23 = some (.array 2 22) := by kernel_rfl
theorem patternShows_und24 : Tryd.prog.underlying 24 = some (.slice 22) := by kernel_rfl
theorem patternShows_und3 : Tryd.prog.underlying 3 = some (.int .i64) := by kernel_rfl
theorem patternShows_cel9 : Tryd.prog.cellsOf 9 = 1 := by kernel_rfl
theorem patternShows_cel4 : Tryd.prog.cellsOf 4 = 1 := by kernel_rfl
theorem patternShows_cel22 : Tryd.prog.cellsOf 22 = 1 := by kernel_rfl
theorem patternShows_cel23 : Tryd.prog.cellsOf 23 = 2 := by kernel_rfl
theorem patternShows_cel24 : Tryd.prog.cellsOf 24 = 1 := by kernel_rfl
theorem patternShows_cel3 : Tryd.prog.cellsOf 3 = 1 := by kernel_rfl
theorem patternShows_glob {W : World} (h : laidMetH Tryd.prog Rows.patternShowsRow.laid W) : MemR [(⟨1, arr .u8 256 asp, 77⟩ : Blk)] W := by
  have hv := laid_metH (by kernel_rfl) h
  exact (memR_cons (laid_strings_asciiSpace_rin (hv _ (List.mem_of_getElem? (i := 5) rfl))) memR_nil)
theorem pname_lt {b : List Nat} (hb : ∀ x ∈ b, x < 256) (ps : List Int) : ∀ x ∈ pname b ps, x < 256 := by
  have hp : ∀ i, ∀ x ∈ pmd ps i, x < 256 := by
    intro i
    induction i with
    | zero => intro x hx; simp [pmd] at hx
    | succ i ih =>
      intro x hx
      rw [pmd] at hx
      rcases List.mem_append.1 hx with hx | hx
      · exact ih x hx
      · rcases List.mem_append.1 hx with hx | hx
        · split at hx
          · simp at hx; omega
          · simp at hx
        · simp only [List.mem_cons, List.not_mem_nil, or_false] at hx
          rcases hx with rfl | rfl | rfl | rfl <;> first | decide | (unfold pskD; omega)
  intro x hx
  unfold pname at hx
  rcases List.mem_append.1 hx with hx | hx
  · rcases List.mem_append.1 hx with hx | hx
    · rcases List.mem_append.1 hx with hx | hx
      · exact (by decide : ∀ x ∈ hdN, x < 256) x hx
      · exact hb x hx
    · exact hp _ x hx
  · exact (by decide : ∀ x ∈ tlN, x < 256) x hx
theorem patternShows_all {G : Mem} (b : List Nat) (l : Bool) (vp va vb vt : Value) (ps pa pb : List Int) (tvs : List Value) (ts : List (List Int)) (hb : ∀ x ∈ b, x < 256) (hp : Shows G 1 vp ps.length (ps.map iv)) (hpm : ps.length ≤ maxLen) (hvt : Shows G 1 vt tvs.length tvs) (hLI : ShowsLI G (va :: vb :: tvs) (pa :: pb :: ts)) (hT : tvs.length ≤ maxLen) (hQ : ∀ q ∈ pa :: pb :: ts, q.length ≤ maxLen) :
    Fn Tryd.prog ((⟨1, arr .u8 256 asp, 77⟩ : Blk) :: G) 5 #[.agg (patC b l vp va vb vt)] (.bool true) := by
  simp only [maxLen] at hpm hT hQ
  have hmx : (2 : Nat) ^ 63 - 1 = 9223372036854775807 := by decide
  rw [hmx] at hpm hT
  have hQ2 : ∀ q ∈ pa :: pb :: ts, q.length ≤ 9223372036854775807 := fun q hq => by have := hQ q hq; omega
  have up : ∀ x ∈ G, x ∈ ((⟨1, arr .u8 256 asp, 77⟩ : Blk) :: G) := fun x hx => List.mem_cons_of_mem _ hx
  have hL3 : ShowsLI ((⟨1, arr .u8 256 asp, 77⟩ : Blk) :: G) (vp :: va :: vb :: tvs) (ps :: pa :: pb :: ts) := by
    refine ⟨by simp [hLI.1], fun i hi => ?_⟩
    match i with
    | 0 => exact hp.mono up
    | i + 1 => exact (hLI.2 i (by simpa using hi)).mono up
  have htl : tvs.length = ts.length := by have := hLI.1; simpa using this
  have hza : ts.length ≤ 9223372036854775807 ∧ ∀ q ∈ ps :: pa :: pb :: ts, q.length ≤ 9223372036854775807 := ⟨by omega, fun q hq => by
    rcases List.mem_cons.1 hq with rfl | hq
    · exact hpm
    · exact hQ2 q hq⟩
  by_cases h0 : (pwith b ps).1 = 0
  · cases hs : sameP b b l (decide (b = nXF)) ps ps pa (ci (wq b ps 0)) pb (ci (wq b ps 1)) ts ((wt b ps).map ci) with
    | true =>
      have hE := name_ok b l vp va vb vt tvs ps pa pb ts hb (hvt.mono up) hL3 hza hpm h0 hs
      exact patternShows_fn b l vp va vb vt _ 0 (pname_lt hb ps) (dshow_ok b l vp va vb vt tvs ps pa pb ts hb (hvt.mono up) hL3 hza hpm h0 hs) hE
    | false =>
      have hE := name_form b l vp va vb vt tvs ps pa pb ts hb (hvt.mono up) hL3 hza hpm h0 hs
      exact patternShows_fn b l vp va vb vt [] 3 (by simp) (dshow_form b l vp va vb vt tvs ps pa pb ts hb (hvt.mono up) hL3 hza hpm h0 hs) hE
  · have hE := name_err b l vp va vb vt tvs ps pa pb ts hb (hvt.mono up) hL3 hpm _ rfl h0
    exact patternShows_fn b l vp va vb vt [] _ (by simp) (dshow_err b l vp va vb vt tvs ps pa pb ts hb (hvt.mono up) hL3 hpm _ rfl h0) hE

set_option maxRecDepth 100000 in
theorem patternShows_lifted (os : Os) (started : os.Started) (H : Type) (enc : TypeId × Value → H) :
    ReturnsInHanded {} Tryd.checked os 5 .any (fun w args => (Rows.patternShowsSpec.pre enc Tryd.prog Tryd.f5 Rows.patternShowsRow.domain false w args ∧ laidMetH Tryd.prog Rows.patternShowsRow.laid w) ∧ sizedMet enc Tryd.prog Tryd.f5 (OpenSpec.ofChange Rows.patternShowsSpec) false w args)
      (Rows.patternShowsSpec.post enc Tryd.prog Tryd.f5 false true false false) := by
  refine returnsInHanded_of_change_and (C := Tryd.checked) (X := fun w _ => laidMetH Tryd.prog Rows.patternShowsRow.laid w) (fun _ _ _ hh h => h.of_heap hh) patternShows_own started (by kernel_rfl) Tryd.func5
    (ChangeSpec.witness_shaped (enc := enc) (C := Tryd.checked) (os := os) (X := fun w _ => laidMetH Tryd.prog Rows.patternShowsRow.laid w) false (World.laidAll Tryd.prog os Rows.patternShowsRow.laid) #[.agg #[.string ByteArray.empty, .bool false, .slice none 0 0, .slice none 0 0, .slice none 0 0, .slice none 0 0]] 8 (World.laidAll_os _ _ _)
      (World.shaped_of_ZipB (by kernel_rfl) (by kernel_rfl)) (by kernel_rfl) (by kernel_rfl) (by kernel_rfl)
      (by rw [MakeChecks.laidMetH_plain _ _ _ (by kernel_rfl)]; exact laidMet_laidAll _ (by kernel_rfl) (by kernel_rfl))) ?_
  intro W base args ds gs before hval0 hW hc hwt hL _
  have hval : ∀ (j : Nat) t v, Tryd.f5.params[j]? = some t → args[j]? = some v → Value.okWide Tryd.prog W .any base t v := hval0
  have hW' := hW
  obtain ⟨p, q, hA0, hV, rfl, hfz, hnd⟩ := hW
  have hA : DataW.TrodAll enc Tryd.prog W 0 (fun _ => true) true Tryd.f5.params.toList args.toList ds p := hA0
  rw [Tryd.params5] at hA hval
  have hplt := DataW.TrodAll.lt hA
  obtain ⟨v0, d0, rfl, rfl, h0⟩ := trodAll_one hA
  obtain ⟨rfl, rfl⟩ := trodVars_none hV
  have hk0 := h0
  obtain ⟨G0, base0, late0, vp0, va0, vb0, vt0, ps0, pa0, pb0, tvs0, ts0, rfl, hG0, hb0, hm0, hp0, hvt0, hLI0, hT0, hQ0⟩ := open_pat [26, 9, 4, 22, 3, 23, 24] (by kernel_rfl) (by decide) patternShows_und26 patternShows_cts26 patternShows_cel26 patternShows_cel26 rfl rfl rfl rfl rfl rfl rfl rfl patternShows_und9 patternShows_und4 patternShows_und22 patternShows_und23 patternShows_und24 patternShows_und3 patternShows_cel9 patternShows_cel4 patternShows_cel22 patternShows_cel23 patternShows_cel24 patternShows_cel3 (hval 0 26 v0 rfl rfl) h0
  clear hA0 hval0
  simp only [List.append_nil] at hW'
  refine ((patternShows_all (G := G0) base0 late0 vp0 va0 vb0 vt0 ps0 pa0 pb0 tvs0 ts0 hb0 hp0.1 hp0.2 hvt0 hLI0 hT0 hQ0) W (memR_app (patternShows_glob hL) hG0)).mono fun e W' ⟨he, hb⟩ => ?_
  subst he
  exact ⟨_, rfl, _, _, _, [], _, [], hW', trodAll_mk1 (shut_bool Tryd.underlying4 _), trodAll_mk1 (Below.trod patternShows_laid (by kernel_rfl) (of_decide_eq_true (by kernel_rfl)) hk0 hb (fun x hx => hplt x (by first | exact absurd hx List.not_mem_nil | simp [hx]))), rfl, hb.frame _, fun h => by cases h⟩

theorem patternShows_holds : Rows.PatternShowsSaid :=
  OpenClaim.holds_of_wide 5 Tryd.f5 rfl rfl rfl rfl rfl rfl rfl ⟨rfl, rfl, rfl, rfl, rfl⟩ rfl rfl rfl rfl rfl (by kernel_rfl) Tryd.func5 (by kernel_rfl)
    (of_decide_eq_true (by kernel_rfl)) (by unfold Func.isWrapper; first | (rw [if_pos (by decide +kernel)]; kernel_rfl) | (rw [if_neg (by decide +kernel)]; exact ⟨rfl, rfl⟩))
    (fun os started H enc _ => patternShows_lifted os started H enc)
theorem patternShows_card : Rows.PatternShowsCardSaid :=
  Claim7.holds_tied_plain_at .later [] [.data, .data, .data, .data, .listed, .data, .pinned] true (true, "abcc41a5866173744392233e0a89f17f8a56ebd04b4e5f7859af495e89c627a0") false patternShows_holds (fun _ h => by cases h) (by kernel_rfl) (fun _ h => by cases h) patternShows_row_tie rfl ⟨rfl, rfl⟩ (by kernel_rfl) rfl
    (fun f fn hf hfn => by
      obtain rfl : f = 5 := Option.some.inj ((show Tryd.prog.funcNamed Tryd.f5.name = some 5 by kernel_rfl).symm.trans hf) |>.symm
      obtain rfl : fn = Tryd.f5 := (Option.some.inj (Tryd.func5.symm.trans hfn)).symm
      exact ⟨by kernel_rfl, fun j t ht => by
        rw [Tryd.params5] at ht
        have hm : t ∈ [26] := by have h9 := Array.mem_of_getElem? ht; simpa using h9
        have hall : ([26].all fun u => !Tryd.prog.wantsStandIn u) = true := by kernel_rfl
        exact (show Tryd.prog.wantsStandIn t = false by simpa using List.all_eq_true.1 hall t hm)⟩)
    (by kernel_rfl)
#print axioms patternShows_card
end Go.Proofs.YtejejmhbhegneaaDoor
