/- The second form of the card of signetlaw.BlakeSums: for all bytes, of at most 1048576 values in all, it returns true, and its argument reads as it did. -/
import Derived.Test.YtlaebpebgjaehaaDoorRows
import Derived.Test.YtlaebpebgjaehaaDoorTie
import Derived.Test.YtlaebpebgjaehaaDoorCards
import Derived.Test.YtlaebpebgjaehaaDoorK7
import Derived.Test.YtlaebpebgjaehaaDoorK8
import Derived.SevenTiedAt
import Derived.LaidMore
import Derived.Lay
import Derived.Stop.Joined
import Derived.Deep.DeepHandedRow
namespace Go.Proofs.YtlaebpebgjaehaaDoor
open Go.ChangeShapes Go.WideShapes Go.ChangeAt Go.RowKit

theorem blakeSums_own : ownKnob Tryd.prog.godebug = none := by kernel_rfl
theorem blakeSums_laid : laidOutB Tryd.prog = true := by kernel_rfl
theorem blakeSums_und27 : Tryd.prog.underlying 27 = some (.slice 5) := by kernel_rfl
theorem blakeSums_und5 : Tryd.prog.underlying 5 = some (.int .u8) := by kernel_rfl
theorem blakeSums_cel5 : Tryd.prog.cellsOf 5 = 1 := by kernel_rfl
theorem blakeSums_byo5 : Tryd.prog.bytesOf 5 = 1 := by kernel_rfl
theorem blakeSums_glob {W : World} (h : laidMetH Tryd.prog Rows.blakeSumsUptoRow.laid W) : MemR [(⟨0, arr .u32 8 ivf, 23⟩ : Blk), (⟨1, arr .i64 160 sgf, 66⟩ : Blk)] W := by
  have hv := laid_metH (by kernel_rfl) h
  exact (memR_cons (laid_signet_signetref_iv_rin (hv _ (List.mem_of_getElem? (i := 1) rfl))) (memR_cons (laid_signet_blake_orders_rin (hv _ (List.mem_of_getElem? (i := 0) rfl))) memR_nil))

theorem blakeSums_laidm (os : Os) : laidMetH Tryd.prog Rows.blakeSumsUptoRow.laid ((World.laidAll Tryd.prog os Rows.blakeSumsUptoRow.laid).forCall (fun _ _ => 0) ⟨#[], #[.slice none 0 0], []⟩).memory := by
  rw [MakeChecks.laidMetH_plain _ _ _ (by kernel_rfl)]; exact laidMet_laidAll _ (by kernel_rfl) (by kernel_rfl)
set_option maxRecDepth 100000 in
theorem blakeSums_lifted (os : Os) (started : os.Started) (H : Type) (enc : TypeId × Value → H) (F : Stop.Interp) :
    ReturnsInHanded {} Tryd.checked os 5 .any ((Rows.OpenSpec.upto Rows.blakeSumsSpec).preRow enc Tryd.prog Tryd.f5 Rows.blakeSumsUptoRow.domain false Rows.blakeSumsUptoRow.laid)
      (((Rows.OpenSpec.upto Rows.blakeSumsSpec).at F).post enc Tryd.prog Tryd.f5 false true false false) := by
  refine returnsInHanded_of_row (C := Tryd.checked) (s := Rows.OpenSpec.upto Rows.blakeSumsSpec) blakeSums_own started (by kernel_rfl) Tryd.func5
    (witness_row_at (enc := enc) (C := Tryd.checked) false (World.laidAll Tryd.prog os Rows.blakeSumsUptoRow.laid) #[.slice none 0 0] (World.laidAll_os _ _ _) (by kernel_rfl) (by kernel_rfl) (by kernel_rfl)
      (OpenSpec.preRow_of_cond 8 (show DataW.whole enc Tryd.prog ((World.laidAll Tryd.prog os Rows.blakeSumsUptoRow.laid).forCall (fun _ _ => 0) ⟨#[], #[.slice none 0 0], []⟩).memory Tryd.f5.params.toList Rows.blakeSumsSpec.vars false (#[.slice none 0 0] : Array Value).toList 8 = some ([.nil], [], []) by kernel_rfl) (by kernel_rfl) (fun k hk => by cases hk; kernel_rfl) (by kernel_rfl) (blakeSums_laidm os))) ?_
  intro W base args ds gs before hval0 hW _ hcond hwt hL _ _
  have hval : ∀ (j : Nat) t v, Tryd.f5.params[j]? = some t → args[j]? = some v → Value.okWide Tryd.prog W .any base t v := hval0
  have hW' := hW
  obtain ⟨p, q, hA0, hV, rfl, hfz, hnd⟩ := hW
  have hA : DataW.TrodAll enc Tryd.prog W 0 (fun _ => true) true Tryd.f5.params.toList args.toList ds p := hA0
  rw [Tryd.params5] at hA hval
  have hplt := DataW.TrodAll.lt hA
  obtain ⟨v0, d0, rfl, rfl, h0⟩ := trodAll_one hA
  obtain ⟨rfl, rfl⟩ := trodVars_none hV
  have hk0 := h0
  obtain ⟨l0, G0, hl0, hm0, hv0, hG0⟩ := open_bytes blakeSums_und27 blakeSums_und5 blakeSums_cel5 (hval 0 27 v0 rfl rfl) h0
  have hs0 := open_sized blakeSums_und27 blakeSums_und5 blakeSums_cel5 blakeSums_byo5 hk0 (each_sized hwt (j := 0) rfl rfl) hv0
  have hu0 := open_bulk blakeSums_und27 blakeSums_und5 blakeSums_cel5 hk0 (bulk_of (hcond _ rfl) (j := 0) rfl) hv0
  clear hA0 hval0
  simp only [List.append_nil] at hW'
  refine ((blakeSums_fn (G := DOR :: G0) v0 l0 (hv0.mono fun x hx => List.mem_cons_of_mem _ (List.mem_cons_of_mem _ hx)) hl0 (by omega) ((dsum6_fn (G := G0) v0 l0 (hv0.mono fun x hx => List.mem_cons_of_mem _ hx) hl0 (by omega)).more (fun x hx => List.mem_cons_of_mem _ hx))) W (memR_app (blakeSums_glob hL) hG0)).mono fun e W' ⟨he, hb⟩ => ?_
  subst he
  exact ⟨_, rfl, _, _, _, [], _, [], hW', trodAll_mk1 (shut_bool Tryd.underlying4 _), trodAll_mk1 (Below.trod blakeSums_laid (by kernel_rfl) (of_decide_eq_true (by kernel_rfl)) hk0 hb (fun x hx => hplt x (by first | exact absurd hx List.not_mem_nil | simp [hx]))), rfl, hb.frame _, fun h => by cases h⟩

theorem blakeSums_holds : Rows.BlakeSumsUptoSaid :=
  OpenClaim.holds_of_cond 5 Tryd.f5 rfl rfl rfl rfl rfl rfl rfl ⟨rfl, rfl, rfl, rfl, rfl⟩ rfl rfl rfl rfl rfl (by kernel_rfl) Tryd.func5 (by kernel_rfl)
    (of_decide_eq_true (by kernel_rfl)) (by unfold Func.isWrapper; first | (rw [if_pos (by decide +kernel)]; kernel_rfl) | (rw [if_neg (by decide +kernel)]; exact ⟨rfl, rfl⟩))
    (fun os started H enc _ F => by rw [OpenClaim.pre_eq_preRow]; exact blakeSums_lifted os started H enc F)
theorem blakeSums_card : Rows.BlakeSumsUptoCardSaid :=
  Claim7.holds_tied_plain_at .later [] [.data, .data] true (true, "68b53798bdfd9ffbe31fde81cc301b91cf15c239a3c07d02bb0a466bec2418c5") false blakeSums_holds (fun _ h => by cases h) (by kernel_rfl) (fun _ h => by cases h) blakeSumsUpto_row_tie rfl ⟨rfl, rfl⟩ (by kernel_rfl) rfl
    (fun f fn hf hfn => by
      obtain rfl : f = 5 := Option.some.inj ((show Tryd.prog.funcNamed Tryd.f5.name = some 5 by kernel_rfl).symm.trans hf) |>.symm
      obtain rfl : fn = Tryd.f5 := (Option.some.inj (Tryd.func5.symm.trans hfn)).symm
      exact ⟨by kernel_rfl, fun j t ht => by
        rw [Tryd.params5] at ht
        have hm : t ∈ [27] := by have h9 := Array.mem_of_getElem? ht; simpa using h9
        have hall : ([27].all fun u => !Tryd.prog.wantsStandIn u) = true := by kernel_rfl
        exact (show Tryd.prog.wantsStandIn t = false by simpa using List.all_eq_true.1 hall t hm)⟩)
    (by kernel_rfl)
#print axioms blakeSums_card
end Go.Proofs.YtlaebpebgjaehaaDoor
