/- The card of signetkeep.BlakeParts: for all bytes and two ints it returns true, and its arguments read as they did. -/
import Derived.Test.YtlaebpebgjaehaaDoorRows
import Derived.Test.YtlaebpebgjaehaaDoorTie
import Derived.Test.YtlaebpebgjaehaaDoorCards
import Derived.Test.YtlaebpebgjaehaaDoorK7
import Derived.Test.YtlaebpebgjaehaaDoorK8
import Derived.SevenTiedAt
import Derived.LaidMore
import Derived.Lay
import Derived.Stop.Joined
namespace Go.Proofs.YtlaebpebgjaehaaDoor
open Go.ChangeShapes Go.WideShapes Go.ChangeAt Go.RowKit

theorem blakeParts_own : ownKnob Tryd.prog.godebug = none := by kernel_rfl
theorem blakeParts_laid : laidOutB Tryd.prog = true := by kernel_rfl
theorem blakeParts_und27 : Tryd.prog.underlying 27 = some (.slice 5) := by kernel_rfl
theorem blakeParts_und5 : Tryd.prog.underlying 5 = some (.int .u8) := by kernel_rfl
theorem blakeParts_cel5 : Tryd.prog.cellsOf 5 = 1 := by kernel_rfl
theorem blakeParts_byo5 : Tryd.prog.bytesOf 5 = 1 := by kernel_rfl
theorem blakeParts_und3 : Tryd.prog.underlying 3 = some (.int .i64) := by kernel_rfl
theorem blakeParts_glob {W : World} (h : laidMetH Tryd.prog Rows.blakePartsRow.laid W) : MemR [(⟨1, arr .i64 160 sgf, 66⟩ : Blk)] W := by
  have hv := laid_metH (by kernel_rfl) h
  exact (memR_cons (laid_signet_blake_orders_rin (hv _ (List.mem_of_getElem? (i := 0) rfl))) memR_nil)

set_option maxRecDepth 100000 in
theorem blakeParts_lifted (os : Os) (started : os.Started) (H : Type) (enc : TypeId × Value → H) :
    ReturnsInHanded {} Tryd.checked os 6 .any (fun w args => (Rows.blakePartsSpec.pre enc Tryd.prog Tryd.f6 Rows.blakePartsRow.domain false w args ∧ laidMetH Tryd.prog Rows.blakePartsRow.laid w) ∧ sizedMet enc Tryd.prog Tryd.f6 (OpenSpec.ofChange Rows.blakePartsSpec) false w args)
      (Rows.blakePartsSpec.post enc Tryd.prog Tryd.f6 false true false false) := by
  refine returnsInHanded_of_change_and (C := Tryd.checked) (X := fun w _ => laidMetH Tryd.prog Rows.blakePartsRow.laid w) (fun _ _ _ hh h => h.of_heap hh) blakeParts_own started (by kernel_rfl) Tryd.func6
    (ChangeSpec.witness_shaped (enc := enc) (C := Tryd.checked) (os := os) (X := fun w _ => laidMetH Tryd.prog Rows.blakePartsRow.laid w) false (World.laidAll Tryd.prog os Rows.blakePartsRow.laid) #[.slice none 0 0, .int .i64 0, .int .i64 0] 8 (World.laidAll_os _ _ _)
      (World.shaped_of_ZipB (by kernel_rfl) (by kernel_rfl)) (by kernel_rfl) (by kernel_rfl) (by kernel_rfl)
      (by rw [MakeChecks.laidMetH_plain _ _ _ (by kernel_rfl)]; exact laidMet_laidAll _ (by kernel_rfl) (by kernel_rfl))) ?_
  intro W base args ds gs before hval0 hW hc hwt hL _
  have hval : ∀ (j : Nat) t v, Tryd.f6.params[j]? = some t → args[j]? = some v → Value.okWide Tryd.prog W .any base t v := hval0
  have hW' := hW
  obtain ⟨p, q, hA0, hV, rfl, hfz, hnd⟩ := hW
  have hA : DataW.TrodAll enc Tryd.prog W 0 (fun _ => true) true Tryd.f6.params.toList args.toList ds p := hA0
  rw [Tryd.params6] at hA hval
  have hplt := DataW.TrodAll.lt hA
  obtain ⟨v0, v1, v2, d0, d1, d2, p0, p1, p2, rfl, rfl, rfl, h0, h1, h2⟩ := trodAll_three hA
  obtain ⟨rfl, rfl⟩ := trodVars_none hV
  have hk0 := h0
  have hk1 := h1
  have hk2 := h2
  obtain ⟨l0, G0, hl0, hm0, hv0, hG0⟩ := open_bytes blakeParts_und27 blakeParts_und5 blakeParts_cel5 (hval 0 27 v0 rfl rfl) h0
  have hs0 := open_sized blakeParts_und27 blakeParts_und5 blakeParts_cel5 blakeParts_byo5 hk0 (each_sized hwt (j := 0) rfl rfl) hv0
  obtain ⟨z1, rfl, rfl, rfl, wf1⟩ := open_int blakeParts_und3 (hval 1 3 v1 rfl rfl) h1
  obtain ⟨z2, rfl, rfl, rfl, wf2⟩ := open_int blakeParts_und3 (hval 2 3 v2 rfl rfl) h2
  clear hA0 hval0
  simp only [List.append_nil] at hW'
  refine ((blakeParts_fn (G := G0) [DOR] v0 l0 z1 z2 (hv0.mono (fun x hx => List.mem_cons_of_mem _ hx)) hl0 (fun G v l hb hl hv => dsum6_fn (G := G) v l hv hb (by omega)) (fun G => dBegin_msg (G := DOR :: G)) (fun G m v l hm hl hz hv => dAdd_msg (G := G) m v l hm hv hl (by omega)) (fun G m hm hz => dEnd_msg (G := G) m hm (by omega))) W (memR_app (blakeParts_glob hL) hG0)).mono fun e W' ⟨he, hb⟩ => ?_
  subst he
  exact ⟨_, rfl, _, _, _, [], _, [], hW', trodAll_mk1 (shut_bool Tryd.underlying4 _), trodAll_mk3 (Below.trod blakeParts_laid (by kernel_rfl) (of_decide_eq_true (by kernel_rfl)) hk0 hb (fun x hx => hplt x (by first | exact absurd hx List.not_mem_nil | simp [hx]))) (Below.trod blakeParts_laid (by kernel_rfl) (of_decide_eq_true (by kernel_rfl)) hk1 hb (fun x hx => hplt x (by first | exact absurd hx List.not_mem_nil | simp [hx]))) (Below.trod blakeParts_laid (by kernel_rfl) (of_decide_eq_true (by kernel_rfl)) hk2 hb (fun x hx => hplt x (by first | exact absurd hx List.not_mem_nil | simp [hx]))), rfl, hb.frame _, fun h => by cases h⟩

theorem blakeParts_holds : Rows.BlakePartsSaid :=
  OpenClaim.holds_of_wide 6 Tryd.f6 rfl rfl rfl rfl rfl rfl rfl ⟨rfl, rfl, rfl, rfl, rfl⟩ rfl rfl rfl rfl rfl (by kernel_rfl) Tryd.func6 (by kernel_rfl)
    (of_decide_eq_true (by kernel_rfl)) (by unfold Func.isWrapper; first | (rw [if_pos (by decide +kernel)]; kernel_rfl) | (rw [if_neg (by decide +kernel)]; exact ⟨rfl, rfl⟩))
    (fun os started H enc _ => blakeParts_lifted os started H enc)
theorem blakeParts_card : Rows.BlakePartsCardSaid :=
  Claim7.holds_tied_plain_at .later [] [.data] true (true, "68b53798bdfd9ffbe31fde81cc301b91cf15c239a3c07d02bb0a466bec2418c5") false blakeParts_holds (fun _ h => by cases h) (by kernel_rfl) (fun _ h => by cases h) blakeParts_row_tie rfl ⟨rfl, rfl⟩ (by kernel_rfl) rfl
    (fun f fn hf hfn => by
      obtain rfl : f = 6 := Option.some.inj ((show Tryd.prog.funcNamed Tryd.f6.name = some 6 by kernel_rfl).symm.trans hf) |>.symm
      obtain rfl : fn = Tryd.f6 := (Option.some.inj (Tryd.func6.symm.trans hfn)).symm
      exact ⟨by kernel_rfl, fun j t ht => by
        rw [Tryd.params6] at ht
        have hm : t ∈ [27, 3, 3] := by have h9 := Array.mem_of_getElem? ht; simpa using h9
        have hall : ([27, 3, 3].all fun u => !Tryd.prog.wantsStandIn u) = true := by kernel_rfl
        exact (show Tryd.prog.wantsStandIn t = false by simpa using List.all_eq_true.1 hall t hm)⟩)
    (by kernel_rfl)
#print axioms blakeParts_card
end Go.Proofs.YtlaebpebgjaehaaDoor
