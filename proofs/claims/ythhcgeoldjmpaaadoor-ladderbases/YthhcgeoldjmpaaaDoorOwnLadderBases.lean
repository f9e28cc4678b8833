/- The law signetlaw.LadderBases, for every secret of 32 bytes, the package variable prime being as the program lays it: it returns true, and its argument reads as it did. -/
import Derived.Test.YthhcgeoldjmpaaaDoorRows
import Derived.Test.YthhcgeoldjmpaaaDoorTie
import Derived.Test.YthhcgeoldjmpaaaDoorCards
import Derived.Test.YthhcgeoldjmpaaaDoorQ2
import Derived.Test.YthhcgeoldjmpaaaDoorOpen
import Derived.Test.YthhcgeoldjmpaaaDoorLaid
import Derived.SevenTiedAt
import Derived.LaidMore
import Derived.Lay
import Derived.Stop.Joined
namespace Go.Proofs.YthhcgeoldjmpaaaDoor
open Go.ChangeShapes Go.WideShapes Go.ChangeAt Go.RowKit

theorem ladderBases_own : ownKnob Tryd.prog.godebug = none := by kernel_rfl
theorem ladderBases_cel5 : Tryd.prog.cellsOf 5 = 1 := by kernel_rfl
theorem ladderBases_cel22 : Tryd.prog.cellsOf 22 = 32 := by kernel_rfl
theorem ladderBases_und5 : Tryd.prog.underlying 5 = some (.int .u8) := by kernel_rfl
theorem ladderBases_und22 : Tryd.prog.underlying 22 = some (.array 32 5) := by kernel_rfl

set_option maxRecDepth 100000 in
theorem ladderBases_lifted (os : Os) (started : os.Started) (H : Type) (enc : TypeId × Value → H) :
    ReturnsInHanded {} Tryd.checked os 4 .any (fun w args => (Rows.ladderBasesSpec.pre enc Tryd.prog Tryd.f4 Rows.ladderBasesRow.domain false w args ∧ laidMetH Tryd.prog Rows.ladderBasesRow.laid w) ∧ sizedMet enc Tryd.prog Tryd.f4 (OpenSpec.ofChange Rows.ladderBasesSpec) false w args)
      (Rows.ladderBasesSpec.post enc Tryd.prog Tryd.f4 false true false false) := by
  refine returnsInHanded_of_change_and (C := Tryd.checked) (X := fun w _ => laidMetH Tryd.prog Rows.ladderBasesRow.laid w) (fun _ _ _ hh h => h.of_heap hh) ladderBases_own started (by kernel_rfl) Tryd.func4
    (ChangeSpec.witness_shaped (enc := enc) (C := Tryd.checked) (os := os) (X := fun w _ => laidMetH Tryd.prog Rows.ladderBasesRow.laid w) false (World.laidAll Tryd.prog os Rows.ladderBasesRow.laid) #[.agg (arr .u8 32 fun _ => 0)] 8 (World.laidAll_os _ _ _)
      (World.shaped_of_ZipB (by kernel_rfl) (by kernel_rfl)) (by kernel_rfl) (by kernel_rfl) (by kernel_rfl)
      (by rw [MakeChecks.laidMetH_plain _ _ _ (by kernel_rfl)]; exact laidMet_laidAll _ (by kernel_rfl) (by kernel_rfl))) ?_
  intro W base args ds gs before hval0 hW hc _ hL _
  have hval : ∀ (j : Nat) t v, Tryd.f4.params[j]? = some t → args[j]? = some v → Value.okWide Tryd.prog W .any base t v := hval0
  have hW' := hW
  obtain ⟨p, q, hA0, hV, rfl, _, _⟩ := hW
  have hA : DataW.TrodAll enc Tryd.prog W 0 (fun _ => true) true Tryd.f4.params.toList args.toList ds p := hA0
  rw [Tryd.params4] at hA hval
  obtain ⟨v0, d0, rfl, rfl, h0⟩ := trodAll_one hA
  obtain ⟨rfl, rfl⟩ := trodVars_none hV
  obtain ⟨f0, rfl, hf0, rfl⟩ := open_arr ladderBases_und22 ladderBases_und5 ladderBases_cel5 ladderBases_cel22 wf_u8 (hval 0 22 v0 rfl rfl) h0
  clear hA0 hval0 hval hA
  simp only [List.append_nil] at hW'
  refine ((ladderBases_fn f0 hf0) W (glob_of hL)).mono fun e W' ⟨he, hb⟩ => ?_
  subst he
  exact ⟨_, rfl, _, _, _, [], [], [], hW', trodAll_mk1 (shut_bool Tryd.underlying4 _), trodAll_mk1 (Trod_arr ladderBases_und22 ladderBases_und5 h0 _ _ _ _), rfl, hb.frame _, fun h => by cases h⟩

theorem ladderBases_holds : Rows.LadderBasesSaid :=
  OpenClaim.holds_of_wide 4 Tryd.f4 rfl rfl rfl rfl rfl rfl rfl ⟨rfl, rfl, rfl, rfl, rfl⟩ rfl rfl rfl rfl rfl (by kernel_rfl) Tryd.func4 (by kernel_rfl)
    (of_decide_eq_true (by kernel_rfl)) (by unfold Func.isWrapper; first | (rw [if_pos (by decide +kernel)]; kernel_rfl) | (rw [if_neg (by decide +kernel)]; exact ⟨rfl, rfl⟩))
    (fun os started H enc _ => ladderBases_lifted os started H enc)
theorem ladderBases_card : Rows.LadderBasesCardSaid :=
  Claim7.holds_tied_plain_at .later [] [.data] true (true, "dfebad8b57858a9e259cdbabb127da3aad2d5843982f7793d031b3ed58c80214") false ladderBases_holds (fun _ h => by cases h) (by kernel_rfl) (fun _ h => by cases h) ladderBases_row_tie rfl ⟨rfl, rfl⟩ (by kernel_rfl) rfl
    (fun f fn hf hfn => by
      obtain rfl : f = 4 := Option.some.inj ((show Tryd.prog.funcNamed Tryd.f4.name = some 4 by kernel_rfl).symm.trans hf) |>.symm
      obtain rfl : fn = Tryd.f4 := (Option.some.inj (Tryd.func4.symm.trans hfn)).symm
      exact ⟨by kernel_rfl, fun j t ht => by
        rw [Tryd.params4] at ht
        have hm : t ∈ [22] := by simpa using Array.mem_of_getElem? ht
        have hall : ([22].all fun u => !Tryd.prog.wantsStandIn u) = true := by kernel_rfl
        exact (show Tryd.prog.wantsStandIn t = false by simpa using List.all_eq_true.1 hall t hm)⟩)
    (by kernel_rfl)
#print axioms ladderBases_card
end Go.Proofs.YthhcgeoldjmpaaaDoor
