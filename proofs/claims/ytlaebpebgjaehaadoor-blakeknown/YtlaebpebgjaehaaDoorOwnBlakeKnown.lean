/- The card of signetkeep.BlakeKnown: for every int it returns true, and its argument reads as it did. -/
import Derived.Test.YtlaebpebgjaehaaDoorRows
import Derived.Test.YtlaebpebgjaehaaDoorTie
import Derived.Test.YtlaebpebgjaehaaDoorCards
import Derived.Test.YtlaebpebgjaehaaDoorK7
import Derived.Test.YtlaebpebgjaehaaDoorK8
import Derived.SevenTiedAt
import Derived.LaidMore
import Derived.Lay
import Derived.Stop.Joined
namespace Go.Proofs.YtlaebpebgjaehaaDoor
open Go.ChangeShapes Go.WideShapes Go.ChangeAt Go.RowKit

theorem blakeKnown_own : ownKnob Tryd.prog.godebug = none := by kernel_rfl
theorem blakeKnown_laid : laidOutB Tryd.prog = true := by kernel_rfl
theorem blakeKnown_und3 : Tryd.prog.underlying 3 = some (.int .i64) := by kernel_rfl
theorem blakeKnown_glob {W : World} (h : laidMetH Tryd.prog Rows.blakeKnownRow.laid W) : MemR [(⟨1, arr .i64 160 sgf, 66⟩ : Blk)] W := by
  have hv := laid_metH (by kernel_rfl) h
  exact (memR_cons (laid_signet_blake_orders_rin (hv _ (List.mem_of_getElem? (i := 0) rfl))) memR_nil)
theorem blakeKnown_all {G : Mem} (z : Int) : Fn Tryd.prog ([DOR] ++ G) 7 #[.int .i64 z] (.bool true) := by
  have hk := pkn_lt z (m := 2) (by decide)
  rcases (by omega : pkn z 2 = 0 ∨ pkn z 2 = 1) with h | h
  · exact blakeKnown_0 [DOR] z h (fun G v l hb hl hv => dsum6_fn (G := G) v l hv hb (by omega))
  · exact blakeKnown_1 [DOR] z h (fun G v l hb hl hv => dsum6_fn (G := G) v l hv hb (by omega))

set_option maxRecDepth 100000 in
theorem blakeKnown_lifted (os : Os) (started : os.Started) (H : Type) (enc : TypeId × Value → H) :
    ReturnsInHanded {} Tryd.checked os 7 .any (fun w args => (Rows.blakeKnownSpec.pre enc Tryd.prog Tryd.f7 Rows.blakeKnownRow.domain false w args ∧ laidMetH Tryd.prog Rows.blakeKnownRow.laid w) ∧ sizedMet enc Tryd.prog Tryd.f7 (OpenSpec.ofChange Rows.blakeKnownSpec) false w args)
      (Rows.blakeKnownSpec.post enc Tryd.prog Tryd.f7 false true false false) := by
  refine returnsInHanded_of_change_and (C := Tryd.checked) (X := fun w _ => laidMetH Tryd.prog Rows.blakeKnownRow.laid w) (fun _ _ _ hh h => h.of_heap hh) blakeKnown_own started (by kernel_rfl) Tryd.func7
    (ChangeSpec.witness_shaped (enc := enc) (C := Tryd.checked) (os := os) (X := fun w _ => laidMetH Tryd.prog Rows.blakeKnownRow.laid w) false (World.laidAll Tryd.prog os Rows.blakeKnownRow.laid) #[.int .i64 0] 8 (World.laidAll_os _ _ _)
      (World.shaped_of_ZipB (by kernel_rfl) (by kernel_rfl)) (by kernel_rfl) (by kernel_rfl) (by kernel_rfl)
      (by rw [MakeChecks.laidMetH_plain _ _ _ (by kernel_rfl)]; exact laidMet_laidAll _ (by kernel_rfl) (by kernel_rfl))) ?_
  intro W base args ds gs before hval0 hW hc hwt hL _
  have hval : ∀ (j : Nat) t v, Tryd.f7.params[j]? = some t → args[j]? = some v → Value.okWide Tryd.prog W .any base t v := hval0
  have hW' := hW
  obtain ⟨p, q, hA0, hV, rfl, hfz, hnd⟩ := hW
  have hA : DataW.TrodAll enc Tryd.prog W 0 (fun _ => true) true Tryd.f7.params.toList args.toList ds p := hA0
  rw [Tryd.params7] at hA hval
  have hplt := DataW.TrodAll.lt hA
  obtain ⟨v0, d0, rfl, rfl, h0⟩ := trodAll_one hA
  obtain ⟨rfl, rfl⟩ := trodVars_none hV
  have hk0 := h0
  obtain ⟨z0, rfl, rfl, rfl, wf0⟩ := open_int blakeKnown_und3 (hval 0 3 v0 rfl rfl) h0
  clear hA0 hval0
  simp only [List.append_nil] at hW'
  refine ((blakeKnown_all (G := []) z0) W (memR_app (blakeKnown_glob hL) memR_nil)).mono fun e W' ⟨he, hb⟩ => ?_
  subst he
  exact ⟨_, rfl, _, _, _, [], _, [], hW', trodAll_mk1 (shut_bool Tryd.underlying4 _), trodAll_mk1 (Below.trod blakeKnown_laid (by kernel_rfl) (of_decide_eq_true (by kernel_rfl)) hk0 hb (fun x hx => hplt x (by first | exact absurd hx List.not_mem_nil | simp [hx]))), rfl, hb.frame _, fun h => by cases h⟩

theorem blakeKnown_holds : Rows.BlakeKnownSaid :=
  OpenClaim.holds_of_wide 7 Tryd.f7 rfl rfl rfl rfl rfl rfl rfl ⟨rfl, rfl, rfl, rfl, rfl⟩ rfl rfl rfl rfl rfl (by kernel_rfl) Tryd.func7 (by kernel_rfl)
    (of_decide_eq_true (by kernel_rfl)) (by unfold Func.isWrapper; first | (rw [if_pos (by decide +kernel)]; kernel_rfl) | (rw [if_neg (by decide +kernel)]; exact ⟨rfl, rfl⟩))
    (fun os started H enc _ => blakeKnown_lifted os started H enc)
theorem blakeKnown_card : Rows.BlakeKnownCardSaid :=
  Claim7.holds_tied_plain_at .later [] [.data] true (true, "68b53798bdfd9ffbe31fde81cc301b91cf15c239a3c07d02bb0a466bec2418c5") false blakeKnown_holds (fun _ h => by cases h) (by kernel_rfl) (fun _ h => by cases h) blakeKnown_row_tie rfl ⟨rfl, rfl⟩ (by kernel_rfl) rfl
    (fun f fn hf hfn => by
      obtain rfl : f = 7 := Option.some.inj ((show Tryd.prog.funcNamed Tryd.f7.name = some 7 by kernel_rfl).symm.trans hf) |>.symm
      obtain rfl : fn = Tryd.f7 := (Option.some.inj (Tryd.func7.symm.trans hfn)).symm
      exact ⟨by kernel_rfl, fun j t ht => by
        rw [Tryd.params7] at ht
        have hm : t ∈ [3] := by have h9 := Array.mem_of_getElem? ht; simpa using h9
        have hall : ([3].all fun u => !Tryd.prog.wantsStandIn u) = true := by kernel_rfl
        exact (show Tryd.prog.wantsStandIn t = false by simpa using List.all_eq_true.1 hall t hm)⟩)
    (by kernel_rfl)
#print axioms blakeKnown_card
end Go.Proofs.YtlaebpebgjaehaaDoor
