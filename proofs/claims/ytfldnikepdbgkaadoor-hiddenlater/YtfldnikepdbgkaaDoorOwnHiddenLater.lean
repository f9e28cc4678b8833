/- The card of signetkeep.HiddenLater: for all numbers it returns true, and its arguments read as they did. (Named besides, for the packs: cleanT, y_none.)
-/
import Derived.Test.YtfldnikepdbgkaaDoorRows
import Derived.Test.YtfldnikepdbgkaaDoorTie
import Derived.Test.YtfldnikepdbgkaaDoorCards
import Derived.Test.YtfldnikepdbgkaaDoorKx5
import Derived.Test.YtfldnikepdbgkaaDoorKx8
import Derived.Test.YtfldnikepdbgkaaDoorKx2
import Derived.SevenTiedAt
import Derived.LaidMore
import Derived.Lay
import Derived.Stop.Joined
namespace Go.Proofs.YtfldnikepdbgkaaDoor
open Go.ChangeShapes Go.WideShapes Go.ChangeAt Go.RowKit

theorem hiddenLater_own : ownKnob Tryd.prog.godebug = none := by kernel_rfl
theorem hiddenLater_laid : laidOutB Tryd.prog = true := by kernel_rfl
theorem hiddenLater_und3 : Tryd.prog.underlying 3 = some (.int .i64) := by kernel_rfl
theorem hiddenLater_glob {W : World} (h : laidMetH Tryd.prog Rows.hiddenLaterRow.laid W) : MemR [(⟨0, (nm6.map sv).toArray, 41⟩ : Blk)] W := by
  have hv := laid_metH (by kernel_rfl) h
  exact (memR_cons (laid_signet_signetkeep_bases_rin (hv _ (List.mem_of_getElem? (i := 0) rfl))) memR_nil)
theorem hiddenLater_all {G : Mem} (zn zm zk zj zt : Int) : Fn Tryd.prog ((⟨0, (nm6.map sv).toArray, 41⟩ : Blk) :: G) 4 #[.int .i64 zn, .int .i64 zm, .int .i64 zk, .int .i64 zj, .int .i64 zt] (.bool true) :=
  hiddenLater_fn (G := G) [] zn zm zk zj zt (fun G v l ps hl hz hv he => dwith_ok l v ps hl hv (by omega) he)

set_option maxRecDepth 100000 in
set_option maxHeartbeats 4000000 in
theorem hiddenLater_lifted (os : Os) (started : os.Started) (H : Type) (enc : TypeId × Value → H) :
    ReturnsInHanded {} Tryd.checked os 4 .any (fun w args => (Rows.hiddenLaterSpec.pre enc Tryd.prog Tryd.f4 Rows.hiddenLaterRow.domain false w args ∧ laidMetH Tryd.prog Rows.hiddenLaterRow.laid w) ∧ sizedMet enc Tryd.prog Tryd.f4 (OpenSpec.ofChange Rows.hiddenLaterSpec) false w args)
      (Rows.hiddenLaterSpec.post enc Tryd.prog Tryd.f4 false true false false) := by
  refine returnsInHanded_of_change_and (C := Tryd.checked) (X := fun w _ => laidMetH Tryd.prog Rows.hiddenLaterRow.laid w) (fun _ _ _ hh h => h.of_heap hh) hiddenLater_own started (by kernel_rfl) Tryd.func4
    (ChangeSpec.witness_shaped (enc := enc) (C := Tryd.checked) (os := os) (X := fun w _ => laidMetH Tryd.prog Rows.hiddenLaterRow.laid w) false (World.laidAll Tryd.prog os Rows.hiddenLaterRow.laid) #[.int .i64 0, .int .i64 0, .int .i64 0, .int .i64 0, .int .i64 0] 8 (World.laidAll_os _ _ _)
      (World.shaped_of_ZipB (by kernel_rfl) (by kernel_rfl)) (by kernel_rfl) (by kernel_rfl) (by kernel_rfl)
      (by rw [MakeChecks.laidMetH_plain _ _ _ (by kernel_rfl)]; exact laidMet_laidAll _ (by kernel_rfl) (by kernel_rfl))) ?_
  intro W base args ds gs before hval0 hW hc hwt hL _
  have hval : ∀ (j : Nat) t v, Tryd.f4.params[j]? = some t → args[j]? = some v → Value.okWide Tryd.prog W .any base t v := hval0
  have hW' := hW
  obtain ⟨p, q, hA0, hV, rfl, hfz, hnd⟩ := hW
  have hA : DataW.TrodAll enc Tryd.prog W 0 (fun _ => true) true Tryd.f4.params.toList args.toList ds p := hA0
  rw [Tryd.params4] at hA hval
  have hplt := DataW.TrodAll.lt hA
  obtain ⟨v0, v1, v2, v3, v4, d0, d1, d2, d3, d4, p0, p1, p2, p3, p4, rfl, rfl, rfl, h0, h1, h2, h3, h4⟩ := trodAll_five hA
  obtain ⟨rfl, rfl⟩ := trodVars_none hV
  have hk0 := h0
  have hk1 := h1
  have hk2 := h2
  have hk3 := h3
  have hk4 := h4
  obtain ⟨z0, rfl, rfl, rfl, wf0⟩ := open_int hiddenLater_und3 (hval 0 3 v0 rfl rfl) h0
  obtain ⟨z1, rfl, rfl, rfl, wf1⟩ := open_int hiddenLater_und3 (hval 1 3 v1 rfl rfl) h1
  obtain ⟨z2, rfl, rfl, rfl, wf2⟩ := open_int hiddenLater_und3 (hval 2 3 v2 rfl rfl) h2
  obtain ⟨z3, rfl, rfl, rfl, wf3⟩ := open_int hiddenLater_und3 (hval 3 3 v3 rfl rfl) h3
  obtain ⟨z4, rfl, rfl, rfl, wf4⟩ := open_int hiddenLater_und3 (hval 4 3 v4 rfl rfl) h4
  clear hA0 hval0
  simp only [List.append_nil] at hW'
  refine ((hiddenLater_all (G := []) z0 z1 z2 z3 z4) W (memR_app (hiddenLater_glob hL) memR_nil)).mono fun e W' ⟨he, hb⟩ => ?_
  subst he
  exact ⟨_, rfl, _, _, _, [], _, [], hW', trodAll_mk1 (shut_bool Tryd.underlying4 _), trodAll_mk5 (Below.trod hiddenLater_laid (by kernel_rfl) (of_decide_eq_true (by kernel_rfl)) hk0 hb (fun x hx => hplt x (by first | exact absurd hx List.not_mem_nil | simp [hx]))) (Below.trod hiddenLater_laid (by kernel_rfl) (of_decide_eq_true (by kernel_rfl)) hk1 hb (fun x hx => hplt x (by first | exact absurd hx List.not_mem_nil | simp [hx]))) (Below.trod hiddenLater_laid (by kernel_rfl) (of_decide_eq_true (by kernel_rfl)) hk2 hb (fun x hx => hplt x (by first | exact absurd hx List.not_mem_nil | simp [hx]))) (Below.trod hiddenLater_laid (by kernel_rfl) (of_decide_eq_true (by kernel_rfl)) hk3 hb (fun x hx => hplt x (by first | exact absurd hx List.not_mem_nil | simp [hx]))) (Below.trod hiddenLater_laid (by kernel_rfl) (of_decide_eq_true (by kernel_rfl)) hk4 hb (fun x hx => hplt x (by first | exact absurd hx List.not_mem_nil | simp [hx]))), rfl, hb.frame _, fun h => by cases h⟩

theorem hiddenLater_holds : Rows.HiddenLaterSaid :=
  OpenClaim.holds_of_wide 4 Tryd.f4 rfl rfl rfl rfl rfl rfl rfl ⟨rfl, rfl, rfl, rfl, rfl⟩ rfl rfl rfl rfl rfl (by kernel_rfl) Tryd.func4 (by kernel_rfl)
    (of_decide_eq_true (by kernel_rfl)) (by unfold Func.isWrapper; first | (rw [if_pos (by decide +kernel)]; kernel_rfl) | (rw [if_neg (by decide +kernel)]; exact ⟨rfl, rfl⟩))
    (fun os started H enc _ => hiddenLater_lifted os started H enc)
theorem hiddenLater_card : Rows.HiddenLaterCardSaid :=
  Claim7.holds_tied_plain_at .later [] [.data] true (true, "20acc237fcd471eb6a5ed4024cdacf0fd4a93de7b9152d44cde63aa89aa0e4e0") false hiddenLater_holds (fun _ h => by cases h) (by kernel_rfl) (fun _ h => by cases h) hiddenLater_row_tie rfl ⟨rfl, rfl⟩ (by kernel_rfl) rfl
    (fun f fn hf hfn => by
      obtain rfl : f = 4 := Option.some.inj ((show Tryd.prog.funcNamed Tryd.f4.name = some 4 by kernel_rfl).symm.trans hf) |>.symm
      obtain rfl : fn = Tryd.f4 := (Option.some.inj (Tryd.func4.symm.trans hfn)).symm
      exact ⟨by kernel_rfl, fun j t ht => by
        rw [Tryd.params4] at ht
        have hm : t ∈ [3, 3, 3, 3, 3] := by have h9 := Array.mem_of_getElem? ht; simpa using h9
        have hall : ([3, 3, 3, 3, 3].all fun u => !Tryd.prog.wantsStandIn u) = true := by kernel_rfl
        exact (show Tryd.prog.wantsStandIn t = false by simpa using List.all_eq_true.1 hall t hm)⟩)
    (by kernel_rfl)
#print axioms hiddenLater_card
end Go.Proofs.YtfldnikepdbgkaaDoor
