/- The law signetlaw.FieldInverses, for every value of api.Fe, the package variable prime being as the program lays it: it returns true, and its argument reads as it did. -/
import Derived.Test.YtkoigikldikmmaaDoorRows
import Derived.Test.YtkoigikldikmmaaDoorTie
import Derived.Test.YtkoigikldikmmaaDoorCards
import Derived.Test.YtkoigikldikmmaaDoorR5
import Derived.Test.YtkoigikldikmmaaDoorOpen
import Derived.Test.YtkoigikldikmmaaDoorLaid
import Derived.SevenTiedAt
import Derived.LaidMore
import Derived.Lay
import Derived.Stop.Joined
namespace Go.Proofs.YtkoigikldikmmaaDoor
open Go.ChangeShapes Go.WideShapes Go.ChangeAt Go.RowKit

theorem fieldInverses_own : ownKnob Tryd.prog.godebug = none := by kernel_rfl
theorem fieldInverses_cel22 : Tryd.prog.cellsOf 22 = 1 := by kernel_rfl
theorem fieldInverses_cel24 : Tryd.prog.cellsOf 24 = 4 := by kernel_rfl
theorem fieldInverses_und22 : Tryd.prog.underlying 22 = some (.int .u64) := by kernel_rfl
theorem fieldInverses_und24 : Tryd.prog.underlying 24 = some (.array 4 22) := by kernel_rfl
theorem fieldInverses_fn (a : Nat) (ha : a < 2 ^ 256) : Fn Tryd.prog [⟨0, arr .u64 16 (d16 PP), 42⟩] 5 #[fe a] (.bool true) := by
  by_cases h1 : a < PP
  · exact invs_ok a h1
  · exact invs_bad a h1 ha

set_option maxRecDepth 100000 in
theorem fieldInverses_lifted (os : Os) (started : os.Started) (H : Type) (enc : TypeId × Value → H) :
    ReturnsInHanded {} Tryd.checked os 5 .any (fun w args => (Rows.fieldInversesSpec.pre enc Tryd.prog Tryd.f5 Rows.fieldInversesRow.domain false w args ∧ laidMetH Tryd.prog Rows.fieldInversesRow.laid w) ∧ sizedMet enc Tryd.prog Tryd.f5 (OpenSpec.ofChange Rows.fieldInversesSpec) false w args)
      (Rows.fieldInversesSpec.post enc Tryd.prog Tryd.f5 false true false false) := by
  refine returnsInHanded_of_change_and (C := Tryd.checked) (X := fun w _ => laidMetH Tryd.prog Rows.fieldInversesRow.laid w) (fun _ _ _ hh h => h.of_heap hh) fieldInverses_own started (by kernel_rfl) Tryd.func5
    (ChangeSpec.witness_shaped (enc := enc) (C := Tryd.checked) (os := os) (X := fun w _ => laidMetH Tryd.prog Rows.fieldInversesRow.laid w) false (World.laidAll Tryd.prog os Rows.fieldInversesRow.laid) #[.agg (arr .u64 4 fun _ => 0)] 8 (World.laidAll_os _ _ _)
      (World.shaped_of_ZipB (by kernel_rfl) (by kernel_rfl)) (by kernel_rfl) (by kernel_rfl) (by kernel_rfl)
      (by rw [MakeChecks.laidMetH_plain _ _ _ (by kernel_rfl)]; exact laidMet_laidAll _ (by kernel_rfl) (by kernel_rfl))) ?_
  intro W base args ds gs before hval0 hW hc _ hL _
  have hval : ∀ (j : Nat) t v, Tryd.f5.params[j]? = some t → args[j]? = some v → Value.okWide Tryd.prog W .any base t v := hval0
  have hW' := hW
  obtain ⟨p, q, hA0, hV, rfl, _, _⟩ := hW
  have hA : DataW.TrodAll enc Tryd.prog W 0 (fun _ => true) true Tryd.f5.params.toList args.toList ds p := hA0
  rw [Tryd.params5] at hA hval
  obtain ⟨v0, d0, rfl, rfl, h0⟩ := trodAll_one hA
  obtain ⟨rfl, rfl⟩ := trodVars_none hV
  obtain ⟨f0, rfl, hf0, rfl⟩ := open_arr fieldInverses_und24 fieldInverses_und22 fieldInverses_cel22 fieldInverses_cel24 wf_u64 (hval 0 24 v0 rfl rfl) h0
  clear hA0 hval0 hval hA
  simp only [List.append_nil] at hW'
  obtain ⟨x, hx, ex⟩ := fe_arr f0 hf0
  rw [ex] at h0 hW' ⊢
  refine ((fieldInverses_fn x hx) W (glob_of hL)).mono fun e W' ⟨he, hb⟩ => ?_
  subst he
  exact ⟨_, rfl, _, _, _, [], [], [], hW', trodAll_mk1 (shut_bool Tryd.underlying4 _), trodAll_mk1 (Trod_arr fieldInverses_und24 fieldInverses_und22 h0 _ _ _ _), rfl, hb.frame _, fun h => by cases h⟩

theorem fieldInverses_holds : Rows.FieldInversesSaid :=
  OpenClaim.holds_of_wide 5 Tryd.f5 rfl rfl rfl rfl rfl rfl rfl ⟨rfl, rfl, rfl, rfl, rfl⟩ rfl rfl rfl rfl rfl (by kernel_rfl) Tryd.func5 (by kernel_rfl)
    (of_decide_eq_true (by kernel_rfl)) (by unfold Func.isWrapper; first | (rw [if_pos (by decide +kernel)]; kernel_rfl) | (rw [if_neg (by decide +kernel)]; exact ⟨rfl, rfl⟩))
    (fun os started H enc _ => fieldInverses_lifted os started H enc)
theorem fieldInverses_card : Rows.FieldInversesCardSaid :=
  Claim7.holds_tied_plain_at .later [] [.data] true (true, "1a6b30859f2508de67ec49214443eab6101ab7df674d820023e9ca24d375d1aa") false fieldInverses_holds (fun _ h => by cases h) (by kernel_rfl) (fun _ h => by cases h) fieldInverses_row_tie rfl ⟨rfl, rfl⟩ (by kernel_rfl) rfl
    (fun f fn hf hfn => by
      obtain rfl : f = 5 := Option.some.inj ((show Tryd.prog.funcNamed Tryd.f5.name = some 5 by kernel_rfl).symm.trans hf) |>.symm
      obtain rfl : fn = Tryd.f5 := (Option.some.inj (Tryd.func5.symm.trans hfn)).symm
      exact ⟨by kernel_rfl, fun j t ht => by
        rw [Tryd.params5] at ht
        have hm : t ∈ [24] := by simpa using Array.mem_of_getElem? ht
        have hall : ([24].all fun u => !Tryd.prog.wantsStandIn u) = true := by kernel_rfl
        exact (show Tryd.prog.wantsStandIn t = false by simpa using List.all_eq_true.1 hall t hm)⟩)
    (by kernel_rfl)
#print axioms fieldInverses_card
end Go.Proofs.YtkoigikldikmmaaDoor
