/- The law signetlaw.FieldBytes, for every value of api.Fe and every 32 bytes, the package variable prime being as the program lays it: it returns true, and its arguments read as they did. -/
import Derived.Test.YtkoigikldikmmaaDoorRows
import Derived.Test.YtkoigikldikmmaaDoorTie
import Derived.Test.YtkoigikldikmmaaDoorCards
import Derived.Test.YtkoigikldikmmaaDoorR6
import Derived.Test.YtkoigikldikmmaaDoorOpen
import Derived.Test.YtkoigikldikmmaaDoorLaid
import Derived.SevenTiedAt
import Derived.LaidMore
import Derived.Lay
import Derived.Stop.Joined
namespace Go.Proofs.YtkoigikldikmmaaDoor
open Go.ChangeShapes Go.WideShapes Go.ChangeAt Go.RowKit

theorem fieldBytes_own : ownKnob Tryd.prog.godebug = none := by kernel_rfl
theorem fieldBytes_cel5 : Tryd.prog.cellsOf 5 = 1 := by kernel_rfl
theorem fieldBytes_cel22 : Tryd.prog.cellsOf 22 = 1 := by kernel_rfl
theorem fieldBytes_cel24 : Tryd.prog.cellsOf 24 = 4 := by kernel_rfl
theorem fieldBytes_cel32 : Tryd.prog.cellsOf 32 = 32 := by kernel_rfl
theorem fieldBytes_und5 : Tryd.prog.underlying 5 = some (.int .u8) := by kernel_rfl
theorem fieldBytes_und22 : Tryd.prog.underlying 22 = some (.int .u64) := by kernel_rfl
theorem fieldBytes_und24 : Tryd.prog.underlying 24 = some (.array 4 22) := by kernel_rfl
theorem fieldBytes_und32 : Tryd.prog.underlying 32 = some (.array 32 5) := by kernel_rfl
theorem fieldBytes_fn (a : Nat) (f : Nat → Nat) (ha : a < 2 ^ 256) (hf : ∀ j, j < 32 → f j < 256) : Fn Tryd.prog [⟨0, arr .u64 16 (d16 PP), 42⟩] 6 #[fe a, .agg (arr .u8 32 f)] (.bool true) := by
  by_cases h1 : a < PP
  · exact byts_ok a f h1 hf
  · exact byts_bad a f h1 ha hf

set_option maxRecDepth 100000 in
theorem fieldBytes_lifted (os : Os) (started : os.Started) (H : Type) (enc : TypeId × Value → H) :
    ReturnsInHanded {} Tryd.checked os 6 .any (fun w args => (Rows.fieldBytesSpec.pre enc Tryd.prog Tryd.f6 Rows.fieldBytesRow.domain false w args ∧ laidMetH Tryd.prog Rows.fieldBytesRow.laid w) ∧ sizedMet enc Tryd.prog Tryd.f6 (OpenSpec.ofChange Rows.fieldBytesSpec) false w args)
      (Rows.fieldBytesSpec.post enc Tryd.prog Tryd.f6 false true false false) := by
  refine returnsInHanded_of_change_and (C := Tryd.checked) (X := fun w _ => laidMetH Tryd.prog Rows.fieldBytesRow.laid w) (fun _ _ _ hh h => h.of_heap hh) fieldBytes_own started (by kernel_rfl) Tryd.func6
    (ChangeSpec.witness_shaped (enc := enc) (C := Tryd.checked) (os := os) (X := fun w _ => laidMetH Tryd.prog Rows.fieldBytesRow.laid w) false (World.laidAll Tryd.prog os Rows.fieldBytesRow.laid) #[.agg (arr .u64 4 fun _ => 0), .agg (arr .u8 32 fun _ => 0)] 8 (World.laidAll_os _ _ _)
      (World.shaped_of_ZipB (by kernel_rfl) (by kernel_rfl)) (by kernel_rfl) (by kernel_rfl) (by kernel_rfl)
      (by rw [MakeChecks.laidMetH_plain _ _ _ (by kernel_rfl)]; exact laidMet_laidAll _ (by kernel_rfl) (by kernel_rfl))) ?_
  intro W base args ds gs before hval0 hW hc _ hL _
  have hval : ∀ (j : Nat) t v, Tryd.f6.params[j]? = some t → args[j]? = some v → Value.okWide Tryd.prog W .any base t v := hval0
  have hW' := hW
  obtain ⟨p, q, hA0, hV, rfl, _, _⟩ := hW
  have hA : DataW.TrodAll enc Tryd.prog W 0 (fun _ => true) true Tryd.f6.params.toList args.toList ds p := hA0
  rw [Tryd.params6] at hA hval
  obtain ⟨v0, v1, d0, d1, p0, p1, rfl, rfl, rfl, h0, h1⟩ := trodAll_two hA
  obtain ⟨rfl, rfl⟩ := trodVars_none hV
  obtain ⟨f0, rfl, hf0, rfl⟩ := open_arr fieldBytes_und24 fieldBytes_und22 fieldBytes_cel22 fieldBytes_cel24 wf_u64 (hval 0 24 v0 rfl rfl) h0
  obtain ⟨f1, rfl, hf1, rfl⟩ := open_arr fieldBytes_und32 fieldBytes_und5 fieldBytes_cel5 fieldBytes_cel32 wf_u8 (hval 1 32 v1 rfl rfl) h1
  clear hA0 hval0 hval hA
  simp only [List.append_nil] at hW'
  obtain ⟨x, hx, ex⟩ := fe_arr f0 hf0
  rw [ex] at h0 hW' ⊢
  refine ((fieldBytes_fn x f1 hx hf1) W (glob_of hL)).mono fun e W' ⟨he, hb⟩ => ?_
  subst he
  exact ⟨_, rfl, _, _, _, [], [], [], hW', trodAll_mk1 (shut_bool Tryd.underlying4 _), trodAll_mk2 (Trod_arr fieldBytes_und24 fieldBytes_und22 h0 _ _ _ _) (Trod_arr fieldBytes_und32 fieldBytes_und5 h1 _ _ _ _), rfl, hb.frame _, fun h => by cases h⟩

theorem fieldBytes_holds : Rows.FieldBytesSaid :=
  OpenClaim.holds_of_wide 6 Tryd.f6 rfl rfl rfl rfl rfl rfl rfl ⟨rfl, rfl, rfl, rfl, rfl⟩ rfl rfl rfl rfl rfl (by kernel_rfl) Tryd.func6 (by kernel_rfl)
    (of_decide_eq_true (by kernel_rfl)) (by unfold Func.isWrapper; first | (rw [if_pos (by decide +kernel)]; kernel_rfl) | (rw [if_neg (by decide +kernel)]; exact ⟨rfl, rfl⟩))
    (fun os started H enc _ => fieldBytes_lifted os started H enc)
theorem fieldBytes_card : Rows.FieldBytesCardSaid :=
  Claim7.holds_tied_plain_at .later [] [.data] true (true, "1a6b30859f2508de67ec49214443eab6101ab7df674d820023e9ca24d375d1aa") false fieldBytes_holds (fun _ h => by cases h) (by kernel_rfl) (fun _ h => by cases h) fieldBytes_row_tie rfl ⟨rfl, rfl⟩ (by kernel_rfl) rfl
    (fun f fn hf hfn => by
      obtain rfl : f = 6 := Option.some.inj ((show Tryd.prog.funcNamed Tryd.f6.name = some 6 by kernel_rfl).symm.trans hf) |>.symm
      obtain rfl : fn = Tryd.f6 := (Option.some.inj (Tryd.func6.symm.trans hfn)).symm
      exact ⟨by kernel_rfl, fun j t ht => by
        rw [Tryd.params6] at ht
        have hm : t ∈ [24, 32] := by simpa using Array.mem_of_getElem? ht
        have hall : ([24, 32].all fun u => !Tryd.prog.wantsStandIn u) = true := by kernel_rfl
        exact (show Tryd.prog.wantsStandIn t = false by simpa using List.all_eq_true.1 hall t hm)⟩)
    (by kernel_rfl)
#print axioms fieldBytes_card
end Go.Proofs.YtkoigikldikmmaaDoor
