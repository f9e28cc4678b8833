/- The card of signetkeep.PatternFew: for all numbers it returns true, and its arguments read as they did. -/
import Derived.Test.YtejejmhbhegneaaDoorRows
import Derived.Test.YtejejmhbhegneaaDoorTie
import Derived.Test.YtejejmhbhegneaaDoorCards
import Derived.Test.YtejejmhbhegneaaDoorKW5
import Derived.Test.YtejejmhbhegneaaDoorKW6
import Derived.Test.YtejejmhbhegneaaDoorKW4
import Derived.Test.YtejejmhbhegneaaDoorKW2
import Derived.SevenTiedAt
import Derived.LaidMore
import Derived.Lay
import Derived.Stop.Joined
namespace Go.Proofs.YtejejmhbhegneaaDoor
open Go.ChangeShapes Go.WideShapes Go.ChangeAt Go.RowKit

theorem patternFew_own : ownKnob Tryd.prog.godebug = none := by kernel_rfl
theorem patternFew_laid : laidOutB Tryd.prog = true := by kernel_rfl
theorem patternFew_und3 : Tryd.prog.underlying 3 = some (.int .i64) := by kernel_rfl
theorem patternFew_glob {W : World} (h : laidMetH Tryd.prog Rows.patternFewRow.laid W) : MemR [(⟨0, (nm6.map sv).toArray, 57⟩ : Blk)] W := by
  have hv := laid_metH (by kernel_rfl) h
  exact (memR_cons (laid_signet_signetkeep_bases_rin (hv _ (List.mem_of_getElem? (i := 0) rfl))) memR_nil)
theorem patternFew_all {G : Mem} (zn zt zk : Int) : Fn Tryd.prog ((⟨0, (nm6.map sv).toArray, 57⟩ : Blk) :: G) 7 #[.int .i64 zn, .int .i64 zt, .int .i64 zk] (.bool true) :=
  patternFewI_fn (G := G) [] zn zt zk (fun G v l ps hl hz hv he => dwith_ok l v ps hl hv (by omega) he) (fun G b l vp va vb vt tv p q0 q1 t hb hvt hL hz => chk_all b l vp va vb vt tv q0 q1 t hvt (li_tail hL))

set_option maxRecDepth 100000 in
theorem patternFew_lifted (os : Os) (started : os.Started) (H : Type) (enc : TypeId × Value → H) :
    ReturnsInHanded {} Tryd.checked os 7 .any (fun w args => (Rows.patternFewSpec.pre enc Tryd.prog Tryd.f7 Rows.patternFewRow.domain false w args ∧ laidMetH Tryd.prog Rows.patternFewRow.laid w) ∧ sizedMet enc Tryd.prog Tryd.f7 (OpenSpec.ofChange Rows.patternFewSpec) false w args)
      (Rows.patternFewSpec.post enc Tryd.prog Tryd.f7 false true false false) := by
  refine returnsInHanded_of_change_and (C := Tryd.checked) (X := fun w _ => laidMetH Tryd.prog Rows.patternFewRow.laid w) (fun _ _ _ hh h => h.of_heap hh) patternFew_own started (by kernel_rfl) Tryd.func7
    (ChangeSpec.witness_shaped (enc := enc) (C := Tryd.checked) (os := os) (X := fun w _ => laidMetH Tryd.prog Rows.patternFewRow.laid w) false (World.laidAll Tryd.prog os Rows.patternFewRow.laid) #[.int .i64 0, .int .i64 0, .int .i64 0] 8 (World.laidAll_os _ _ _)
      (World.shaped_of_ZipB (by kernel_rfl) (by kernel_rfl)) (by kernel_rfl) (by kernel_rfl) (by kernel_rfl)
      (by rw [MakeChecks.laidMetH_plain _ _ _ (by kernel_rfl)]; exact laidMet_laidAll _ (by kernel_rfl) (by kernel_rfl))) ?_
  intro W base args ds gs before hval0 hW hc hwt hL _
  have hval : ∀ (j : Nat) t v, Tryd.f7.params[j]? = some t → args[j]? = some v → Value.okWide Tryd.prog W .any base t v := hval0
  have hW' := hW
  obtain ⟨p, q, hA0, hV, rfl, hfz, hnd⟩ := hW
  have hA : DataW.TrodAll enc Tryd.prog W 0 (fun _ => true) true Tryd.f7.params.toList args.toList ds p := hA0
  rw [Tryd.params7] at hA hval
  have hplt := DataW.TrodAll.lt hA
  obtain ⟨v0, v1, v2, d0, d1, d2, p0, p1, p2, rfl, rfl, rfl, h0, h1, h2⟩ := trodAll_three hA
  obtain ⟨rfl, rfl⟩ := trodVars_none hV
  have hk0 := h0
  have hk1 := h1
  have hk2 := h2
  obtain ⟨z0, rfl, rfl, rfl, wf0⟩ := open_int patternFew_und3 (hval 0 3 v0 rfl rfl) h0
  obtain ⟨z1, rfl, rfl, rfl, wf1⟩ := open_int patternFew_und3 (hval 1 3 v1 rfl rfl) h1
  obtain ⟨z2, rfl, rfl, rfl, wf2⟩ := open_int patternFew_und3 (hval 2 3 v2 rfl rfl) h2
  clear hA0 hval0
  simp only [List.append_nil] at hW'
  refine ((patternFew_all (G := []) z0 z1 z2) W (memR_app (patternFew_glob hL) memR_nil)).mono fun e W' ⟨he, hb⟩ => ?_
  subst he
  exact ⟨_, rfl, _, _, _, [], _, [], hW', trodAll_mk1 (shut_bool Tryd.underlying4 _), trodAll_mk3 (Below.trod patternFew_laid (by kernel_rfl) (of_decide_eq_true (by kernel_rfl)) hk0 hb (fun x hx => hplt x (by first | exact absurd hx List.not_mem_nil | simp [hx]))) (Below.trod patternFew_laid (by kernel_rfl) (of_decide_eq_true (by kernel_rfl)) hk1 hb (fun x hx => hplt x (by first | exact absurd hx List.not_mem_nil | simp [hx]))) (Below.trod patternFew_laid (by kernel_rfl) (of_decide_eq_true (by kernel_rfl)) hk2 hb (fun x hx => hplt x (by first | exact absurd hx List.not_mem_nil | simp [hx]))), rfl, hb.frame _, fun h => by cases h⟩

theorem patternFew_holds : Rows.PatternFewSaid :=
  OpenClaim.holds_of_wide 7 Tryd.f7 rfl rfl rfl rfl rfl rfl rfl ⟨rfl, rfl, rfl, rfl, rfl⟩ rfl rfl rfl rfl rfl (by kernel_rfl) Tryd.func7 (by kernel_rfl)
    (of_decide_eq_true (by kernel_rfl)) (by unfold Func.isWrapper; first | (rw [if_pos (by decide +kernel)]; kernel_rfl) | (rw [if_neg (by decide +kernel)]; exact ⟨rfl, rfl⟩))
    (fun os started H enc _ => patternFew_lifted os started H enc)
theorem patternFew_card : Rows.PatternFewCardSaid :=
  Claim7.holds_tied_plain_at .later [] [.data] true (true, "abcc41a5866173744392233e0a89f17f8a56ebd04b4e5f7859af495e89c627a0") false patternFew_holds (fun _ h => by cases h) (by kernel_rfl) (fun _ h => by cases h) patternFew_row_tie rfl ⟨rfl, rfl⟩ (by kernel_rfl) rfl
    (fun f fn hf hfn => by
      obtain rfl : f = 7 := Option.some.inj ((show Tryd.prog.funcNamed Tryd.f7.name = some 7 by kernel_rfl).symm.trans hf) |>.symm
      obtain rfl : fn = Tryd.f7 := (Option.some.inj (Tryd.func7.symm.trans hfn)).symm
      exact ⟨by kernel_rfl, fun j t ht => by
        rw [Tryd.params7] at ht
        have hm : t ∈ [3, 3, 3] := by have h9 := Array.mem_of_getElem? ht; simpa using h9
        have hall : ([3, 3, 3].all fun u => !Tryd.prog.wantsStandIn u) = true := by kernel_rfl
        exact (show Tryd.prog.wantsStandIn t = false by simpa using List.all_eq_true.1 hall t hm)⟩)
    (by kernel_rfl)
#print axioms patternFew_card
end Go.Proofs.YtejejmhbhegneaaDoor
