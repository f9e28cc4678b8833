/- The second form of the card of signetlaw.KdfKeys: for a chain and bytes, of at most 1048576 values in all, it returns true, and its arguments read as they did. -/
import Derived.Test.YtpmgjnfllnokjaaDoorRows
import Derived.Test.YtpmgjnfllnokjaaDoorTie
import Derived.Test.YtpmgjnfllnokjaaDoorCards
import Derived.Test.YtpmgjnfllnokjaaDoorKZ8
import Derived.SevenTiedAt
import Derived.LaidMore
import Derived.Lay
import Derived.Stop.Joined
import Derived.Deep.DeepHandedRow
namespace Go.Proofs.YtpmgjnfllnokjaaDoor
open Go.ChangeShapes Go.WideShapes Go.ChangeAt Go.RowKit

theorem kdfKeys_own : ownKnob Tryd.prog.godebug = none := by kernel_rfl
theorem kdfKeys_laid : laidOutB Tryd.prog = true := by kernel_rfl
theorem kdfKeys_und23 : Tryd.prog.underlying 23 = some (.array 32 5) := by kernel_rfl
theorem kdfKeys_und5 : Tryd.prog.underlying 5 = some (.int .u8) := by kernel_rfl
theorem kdfKeys_cel5 : Tryd.prog.cellsOf 5 = 1 := by kernel_rfl
theorem kdfKeys_cel23 : Tryd.prog.cellsOf 23 = 32 := by kernel_rfl
theorem kdfKeys_und22 : Tryd.prog.underlying 22 = some (.slice 5) := by kernel_rfl
theorem kdfKeys_byo5 : Tryd.prog.bytesOf 5 = 1 := by kernel_rfl
theorem kdfKeys_glob {W : World} (h : laidMetH Tryd.prog Rows.kdfKeysUptoRow.laid W) : MemR [(⟨0, arr .u32 8 ivf, 45⟩ : Blk), (⟨1, arr .i64 160 sgf, 75⟩ : Blk)] W := by
  have hv := laid_metH (by kernel_rfl) h
  exact (memR_cons (laid_signet_signetref_iv_rin (hv _ (List.mem_of_getElem? (i := 1) rfl))) (memR_cons (laid_signet_blake_orders_rin (hv _ (List.mem_of_getElem? (i := 0) rfl))) memR_nil))

theorem kdfKeys_laidm (os : Os) : laidMetH Tryd.prog Rows.kdfKeysUptoRow.laid ((World.laidAll Tryd.prog os Rows.kdfKeysUptoRow.laid).forCall (fun _ _ => 0) ⟨#[], #[.agg (arr .u8 32 fun _ => 0), .slice none 0 0], []⟩).memory := by
  rw [MakeChecks.laidMetH_plain _ _ _ (by kernel_rfl)]; exact laidMet_laidAll _ (by kernel_rfl) (by kernel_rfl)
set_option maxRecDepth 100000 in
theorem kdfKeys_lifted (os : Os) (started : os.Started) (H : Type) (enc : TypeId × Value → H) (F : Stop.Interp) :
    ReturnsInHanded {} Tryd.checked os 4 .any ((Rows.OpenSpec.upto Rows.kdfKeysSpec).preRow enc Tryd.prog Tryd.f4 Rows.kdfKeysUptoRow.domain false Rows.kdfKeysUptoRow.laid)
      (((Rows.OpenSpec.upto Rows.kdfKeysSpec).at F).post enc Tryd.prog Tryd.f4 false true false false) := by
  refine returnsInHanded_of_row (C := Tryd.checked) (s := Rows.OpenSpec.upto Rows.kdfKeysSpec) kdfKeys_own started (by kernel_rfl) Tryd.func4
    (witness_row_at (enc := enc) (C := Tryd.checked) false (World.laidAll Tryd.prog os Rows.kdfKeysUptoRow.laid) #[.agg (arr .u8 32 fun _ => 0), .slice none 0 0] (World.laidAll_os _ _ _) (by kernel_rfl) (by kernel_rfl) (by kernel_rfl)
      (OpenSpec.preRow_of_cond 8 (show DataW.whole enc Tryd.prog ((World.laidAll Tryd.prog os Rows.kdfKeysUptoRow.laid).forCall (fun _ _ => 0) ⟨#[], #[.agg (arr .u8 32 fun _ => 0), .slice none 0 0], []⟩).memory Tryd.f4.params.toList Rows.kdfKeysSpec.vars false (#[.agg (arr .u8 32 fun _ => 0), .slice none 0 0] : Array Value).toList 8 = some ([.agg (List.replicate 32 (.lit (.int .u8 0))), .nil], [], []) by kernel_rfl) (by kernel_rfl) (fun k hk => by cases hk; kernel_rfl) (by kernel_rfl) (kdfKeys_laidm os))) ?_
  intro W base args ds gs before hval0 hW _ hcond hwt hL hsh9 _
  have hval : ∀ (j : Nat) t v, Tryd.f4.params[j]? = some t → args[j]? = some v → Value.okWide Tryd.prog W .any base t v := hval0
  have hW' := hW
  obtain ⟨p, q, hA0, hV, rfl, hfz, hnd⟩ := hW
  have hA : DataW.TrodAll enc Tryd.prog W 0 (fun _ => true) true Tryd.f4.params.toList args.toList ds p := hA0
  rw [Tryd.params4] at hA hval
  have hplt := DataW.TrodAll.lt hA
  obtain ⟨v0, v1, d0, d1, p0, p1, rfl, rfl, rfl, h0, h1⟩ := trodAll_two hA
  obtain ⟨rfl, rfl⟩ := trodVars_none hV
  have hk0 := h0
  have hk1 := h1
  obtain ⟨f0, rfl, hf0, rfl⟩ := open_arr kdfKeys_und23 kdfKeys_und5 kdfKeys_cel5 kdfKeys_cel23 wf_u8 (hval 0 23 v0 rfl rfl) h0
  obtain ⟨l1, G1, hl1, hm1, hv1, hG1⟩ := open_bytes kdfKeys_und22 kdfKeys_und5 kdfKeys_cel5 (hval 1 22 v1 rfl rfl) h1
  have hs1 := open_sized kdfKeys_und22 kdfKeys_und5 kdfKeys_cel5 kdfKeys_byo5 hk1 (each_sized hwt (j := 1) rfl rfl) hv1
  have hu1 := open_bulk kdfKeys_und22 kdfKeys_und5 kdfKeys_cel5 hk1 (bulk_of (hcond _ rfl) (j := 1) rfl) hv1
  clear hA0 hval0
  simp only [List.append_nil] at hW'
  refine ((kdfKeys_fn (G := DOR :: G1) f0 v1 l1 hf0 (hv1.mono (fun x hx => List.mem_cons_of_mem _ (List.mem_cons_of_mem _ hx))) hl1 (by omega) ((dthree_fn (G := G1) f0 v1 l1 hf0 (hv1.mono (fun x hx => List.mem_cons_of_mem _ hx)) hl1 (by omega)).more (fun x hx => List.mem_cons_of_mem _ hx)) ((dtwo_fn (G := G1) f0 v1 l1 hf0 (hv1.mono (fun x hx => List.mem_cons_of_mem _ hx)) hl1 (by omega)).more (fun x hx => List.mem_cons_of_mem _ hx))) W (memR_app (kdfKeys_glob hL) hG1)).mono fun e W' ⟨he, hb⟩ => ?_
  subst he
  exact ⟨_, rfl, _, _, _, [], _, [], hW', trodAll_mk1 (shut_bool Tryd.underlying4 _), trodAll_mk2 (Below.trod kdfKeys_laid (by kernel_rfl) (of_decide_eq_true (by kernel_rfl)) hk0 hb (fun x hx => hplt x (by first | exact absurd hx List.not_mem_nil | simp [hx]))) (Below.trod kdfKeys_laid (by kernel_rfl) (of_decide_eq_true (by kernel_rfl)) hk1 hb (fun x hx => hplt x (by first | exact absurd hx List.not_mem_nil | simp [hx]))), rfl, hb.frame _, fun h => by cases h⟩

theorem kdfKeys_holds : Rows.KdfKeysUptoSaid :=
  OpenClaim.holds_of_cond 4 Tryd.f4 rfl rfl rfl rfl rfl rfl rfl ⟨rfl, rfl, rfl, rfl, rfl⟩ rfl rfl rfl rfl rfl (by kernel_rfl) Tryd.func4 (by kernel_rfl)
    (of_decide_eq_true (by kernel_rfl)) (by unfold Func.isWrapper; first | (rw [if_pos (by decide +kernel)]; kernel_rfl) | (rw [if_neg (by decide +kernel)]; exact ⟨rfl, rfl⟩))
    (fun os started H enc _ F => by rw [OpenClaim.pre_eq_preRow]; exact kdfKeys_lifted os started H enc F)
theorem kdfKeys_card : Rows.KdfKeysUptoCardSaid :=
  Claim7.holds_tied_plain_at .later [] [.data, .data] true (true, "d6537590ccb37eb923ebc27d92eb6696cbdde1793e3bf0b890a9accb7b50f906") false kdfKeys_holds (fun _ h => by cases h) (by kernel_rfl) (fun _ h => by cases h) kdfKeysUpto_row_tie rfl ⟨rfl, rfl⟩ (by kernel_rfl) rfl
    (fun f fn hf hfn => by
      obtain rfl : f = 4 := Option.some.inj ((show Tryd.prog.funcNamed Tryd.f4.name = some 4 by kernel_rfl).symm.trans hf) |>.symm
      obtain rfl : fn = Tryd.f4 := (Option.some.inj (Tryd.func4.symm.trans hfn)).symm
      exact ⟨by kernel_rfl, fun j t ht => by
        rw [Tryd.params4] at ht
        have hm : t ∈ [23, 22] := by have h9 := Array.mem_of_getElem? ht; simpa using h9
        have hall : ([23, 22].all fun u => !Tryd.prog.wantsStandIn u) = true := by kernel_rfl
        exact (show Tryd.prog.wantsStandIn t = false by simpa using List.all_eq_true.1 hall t hm)⟩)
    (by kernel_rfl)
#print axioms kdfKeys_card
end Go.Proofs.YtpmgjnfllnokjaaDoor
