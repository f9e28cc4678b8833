/- The second form of the card of signetlaw.KdfMacs: for a key and bytes, of at most 1048576 values in all, it returns true, and its arguments read as they did. -/
import Derived.Test.YtpmgjnfllnokjaaDoorRows
import Derived.Test.YtpmgjnfllnokjaaDoorTie
import Derived.Test.YtpmgjnfllnokjaaDoorCards
import Derived.Test.YtpmgjnfllnokjaaDoorKZ8
import Derived.SevenTiedAt
import Derived.LaidMore
import Derived.Lay
import Derived.Stop.Joined
import Derived.Deep.DeepHandedRow
namespace Go.Proofs.YtpmgjnfllnokjaaDoor
open Go.ChangeShapes Go.WideShapes Go.ChangeAt Go.RowKit

theorem kdfMacs_own : ownKnob Tryd.prog.godebug = none := by kernel_rfl
theorem kdfMacs_laid : laidOutB Tryd.prog = true := by kernel_rfl
theorem kdfMacs_und22 : Tryd.prog.underlying 22 = some (.slice 5) := by kernel_rfl
theorem kdfMacs_und5 : Tryd.prog.underlying 5 = some (.int .u8) := by kernel_rfl
theorem kdfMacs_cel5 : Tryd.prog.cellsOf 5 = 1 := by kernel_rfl
theorem kdfMacs_byo5 : Tryd.prog.bytesOf 5 = 1 := by kernel_rfl
theorem kdfMacs_glob {W : World} (h : laidMetH Tryd.prog Rows.kdfMacsUptoRow.laid W) : MemR [(⟨0, arr .u32 8 ivf, 45⟩ : Blk), (⟨1, arr .i64 160 sgf, 75⟩ : Blk)] W := by
  have hv := laid_metH (by kernel_rfl) h
  exact (memR_cons (laid_signet_signetref_iv_rin (hv _ (List.mem_of_getElem? (i := 1) rfl))) (memR_cons (laid_signet_blake_orders_rin (hv _ (List.mem_of_getElem? (i := 0) rfl))) memR_nil))

theorem kdfMacs_laidm (os : Os) : laidMetH Tryd.prog Rows.kdfMacsUptoRow.laid ((World.laidAll Tryd.prog os Rows.kdfMacsUptoRow.laid).forCall (fun _ _ => 0) ⟨#[], #[.slice none 0 0, .slice none 0 0], []⟩).memory := by
  rw [MakeChecks.laidMetH_plain _ _ _ (by kernel_rfl)]; exact laidMet_laidAll _ (by kernel_rfl) (by kernel_rfl)
set_option maxRecDepth 100000 in
theorem kdfMacs_lifted (os : Os) (started : os.Started) (H : Type) (enc : TypeId × Value → H) (F : Stop.Interp) :
    ReturnsInHanded {} Tryd.checked os 3 .any ((Rows.OpenSpec.upto Rows.kdfMacsSpec).preRow enc Tryd.prog Tryd.f3 Rows.kdfMacsUptoRow.domain false Rows.kdfMacsUptoRow.laid)
      (((Rows.OpenSpec.upto Rows.kdfMacsSpec).at F).post enc Tryd.prog Tryd.f3 false true false false) := by
  refine returnsInHanded_of_row (C := Tryd.checked) (s := Rows.OpenSpec.upto Rows.kdfMacsSpec) kdfMacs_own started (by kernel_rfl) Tryd.func3
    (witness_row_at (enc := enc) (C := Tryd.checked) false (World.laidAll Tryd.prog os Rows.kdfMacsUptoRow.laid) #[.slice none 0 0, .slice none 0 0] (World.laidAll_os _ _ _) (by kernel_rfl) (by kernel_rfl) (by kernel_rfl)
      (OpenSpec.preRow_of_cond 8 (show DataW.whole enc Tryd.prog ((World.laidAll Tryd.prog os Rows.kdfMacsUptoRow.laid).forCall (fun _ _ => 0) ⟨#[], #[.slice none 0 0, .slice none 0 0], []⟩).memory Tryd.f3.params.toList Rows.kdfMacsSpec.vars false (#[.slice none 0 0, .slice none 0 0] : Array Value).toList 8 = some ([.nil, .nil], [], []) by kernel_rfl) (by kernel_rfl) (fun k hk => by cases hk; kernel_rfl) (by kernel_rfl) (kdfMacs_laidm os))) ?_
  intro W base args ds gs before hval0 hW _ hcond hwt hL hsh9 _
  have hval : ∀ (j : Nat) t v, Tryd.f3.params[j]? = some t → args[j]? = some v → Value.okWide Tryd.prog W .any base t v := hval0
  have hW' := hW
  obtain ⟨p, q, hA0, hV, rfl, hfz, hnd⟩ := hW
  have hA : DataW.TrodAll enc Tryd.prog W 0 (fun _ => true) true Tryd.f3.params.toList args.toList ds p := hA0
  rw [Tryd.params3] at hA hval
  have hplt := DataW.TrodAll.lt hA
  obtain ⟨v0, v1, d0, d1, p0, p1, rfl, rfl, rfl, h0, h1⟩ := trodAll_two hA
  obtain ⟨rfl, rfl⟩ := trodVars_none hV
  have hk0 := h0
  have hk1 := h1
  obtain ⟨l0, G0, hl0, hm0, hv0, hG0⟩ := open_bytes kdfMacs_und22 kdfMacs_und5 kdfMacs_cel5 (hval 0 22 v0 rfl rfl) h0
  have hs0 := open_sized kdfMacs_und22 kdfMacs_und5 kdfMacs_cel5 kdfMacs_byo5 hk0 (each_sized hwt (j := 0) rfl rfl) hv0
  obtain ⟨l1, G1, hl1, hm1, hv1, hG1⟩ := open_bytes kdfMacs_und22 kdfMacs_und5 kdfMacs_cel5 (hval 1 22 v1 rfl rfl) h1
  have hs1 := open_sized kdfMacs_und22 kdfMacs_und5 kdfMacs_cel5 kdfMacs_byo5 hk1 (each_sized hwt (j := 1) rfl rfl) hv1
  have hu0 := open_bulk kdfMacs_und22 kdfMacs_und5 kdfMacs_cel5 hk0 (bulk_of (hcond _ rfl) (j := 0) rfl) hv0
  have hu1 := open_bulk kdfMacs_und22 kdfMacs_und5 kdfMacs_cel5 hk1 (bulk_of (hcond _ rfl) (j := 1) rfl) hv1
  clear hA0 hval0
  simp only [List.append_nil] at hW'
  refine ((kdfMacs_fn (G := DOR :: (G0 ++ G1)) v0 v1 l0 l1 (hv0.mono (fun x hx => List.mem_cons_of_mem _ (List.mem_cons_of_mem _ (List.mem_append_left _ hx)))) (hv1.mono (fun x hx => List.mem_cons_of_mem _ (List.mem_cons_of_mem _ (List.mem_append_right _ hx)))) hl0 hl1 (by omega) (by omega) ((dmac7_fn (G := G0 ++ G1) v0 v1 l0 l1 (hv0.mono (fun x hx => List.mem_cons_of_mem _ (List.mem_append_left _ hx))) (hv1.mono (fun x hx => List.mem_cons_of_mem _ (List.mem_append_right _ hx))) hl0 hl1 (by omega) (by omega)).more (fun x hx => List.mem_cons_of_mem _ hx))) W (memR_app (kdfMacs_glob hL) (memR_app hG0 hG1))).mono fun e W' ⟨he, hb⟩ => ?_
  subst he
  exact ⟨_, rfl, _, _, _, [], _, [], hW', trodAll_mk1 (shut_bool Tryd.underlying4 _), trodAll_mk2 (Below.trod kdfMacs_laid (by kernel_rfl) (of_decide_eq_true (by kernel_rfl)) hk0 hb (fun x hx => hplt x (by first | exact absurd hx List.not_mem_nil | simp [hx]))) (Below.trod kdfMacs_laid (by kernel_rfl) (of_decide_eq_true (by kernel_rfl)) hk1 hb (fun x hx => hplt x (by first | exact absurd hx List.not_mem_nil | simp [hx]))), rfl, hb.frame _, fun h => by cases h⟩

theorem kdfMacs_holds : Rows.KdfMacsUptoSaid :=
  OpenClaim.holds_of_cond 3 Tryd.f3 rfl rfl rfl rfl rfl rfl rfl ⟨rfl, rfl, rfl, rfl, rfl⟩ rfl rfl rfl rfl rfl (by kernel_rfl) Tryd.func3 (by kernel_rfl)
    (of_decide_eq_true (by kernel_rfl)) (by unfold Func.isWrapper; first | (rw [if_pos (by decide +kernel)]; kernel_rfl) | (rw [if_neg (by decide +kernel)]; exact ⟨rfl, rfl⟩))
    (fun os started H enc _ F => by rw [OpenClaim.pre_eq_preRow]; exact kdfMacs_lifted os started H enc F)
theorem kdfMacs_card : Rows.KdfMacsUptoCardSaid :=
  Claim7.holds_tied_plain_at .later [] [.data, .data] true (true, "d6537590ccb37eb923ebc27d92eb6696cbdde1793e3bf0b890a9accb7b50f906") false kdfMacs_holds (fun _ h => by cases h) (by kernel_rfl) (fun _ h => by cases h) kdfMacsUpto_row_tie rfl ⟨rfl, rfl⟩ (by kernel_rfl) rfl
    (fun f fn hf hfn => by
      obtain rfl : f = 3 := Option.some.inj ((show Tryd.prog.funcNamed Tryd.f3.name = some 3 by kernel_rfl).symm.trans hf) |>.symm
      obtain rfl : fn = Tryd.f3 := (Option.some.inj (Tryd.func3.symm.trans hfn)).symm
      exact ⟨by kernel_rfl, fun j t ht => by
        rw [Tryd.params3] at ht
        have hm : t ∈ [22, 22] := by have h9 := Array.mem_of_getElem? ht; simpa using h9
        have hall : ([22, 22].all fun u => !Tryd.prog.wantsStandIn u) = true := by kernel_rfl
        exact (show Tryd.prog.wantsStandIn t = false by simpa using List.all_eq_true.1 hall t hm)⟩)
    (by kernel_rfl)
#print axioms kdfMacs_card
end Go.Proofs.YtpmgjnfllnokjaaDoor
