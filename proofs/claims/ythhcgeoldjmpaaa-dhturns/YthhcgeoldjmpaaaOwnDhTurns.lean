/- The law signetkeep.DhTurns, for every two secrets and every point of 32 bytes: it returns true, and its arguments read as they did. -/
import Derived.Test.YthhcgeoldjmpaaaRows
import Derived.Test.YthhcgeoldjmpaaaV3
import Derived.Test.YthhcgeoldjmpaaaOpen
namespace Go.Proofs.Ythhcgeoldjmpaaa
open Go.ChangeShapes Go.WideShapes Go.ChangeAt Go.RowKit

theorem dhTurns_own : ownKnob Try.prog.godebug = none := by kernel_rfl
theorem dhTurns_cel5 : Try.prog.cellsOf 5 = 1 := by kernel_rfl
theorem dhTurns_cel22 : Try.prog.cellsOf 22 = 32 := by kernel_rfl
theorem dhTurns_und5 : Try.prog.underlying 5 = some (.int .u8) := by kernel_rfl
theorem dhTurns_und22 : Try.prog.underlying 22 = some (.array 32 5) := by kernel_rfl
theorem dhTurns_fn (f g h : Nat → Nat) (hf : ∀ j, j < 32 → f j < 256) (hg : ∀ j, j < 32 → g j < 256) (hh : ∀ j, j < 32 → h j < 256) : Fn Try.prog [] 3 #[.agg (arr .u8 32 f), .agg (arr .u8 32 g), .agg (arr .u8 32 h)] (.bool true) := by
  by_cases hs : nOut (pnt h) (sec f) = 0
  · by_cases ht : nOut (pnt h) (sec g) = 0
    · exact dh_00 f g h hf hg hh hs ht
    · exact dh_01 f g h hf hg hh hs ht
  · by_cases ht : nOut (pnt h) (sec g) = 0
    · exact dh_10 f g h hf hg hh hs ht
    · exact dh_11 f g h hf hg hh hs ht

set_option maxRecDepth 100000 in
theorem dhTurns_lifted (os : Os) (started : os.Started) (H : Type) (enc : TypeId × Value → H) :
    ReturnsInHanded {} Try.checked os 3 .any (Rows.dhTurnsSpec.pre6 enc Try.prog Try.f3 Rows.dhTurnsRow.domain false) (Rows.dhTurnsSpec.post enc Try.prog Try.f3 false true false false) := by
  refine returnsInHanded_of_change (C := Try.checked) dhTurns_own started (by kernel_rfl) Try.func3
    (ChangeSpec.witness6 (enc := enc) (C := Try.checked) false ⟨#[], #[.agg (arr .u8 32 fun _ => 0), .agg (arr .u8 32 fun _ => 0), .agg (arr .u8 32 fun _ => 0)], []⟩ 8 (by kernel_rfl) (by kernel_rfl) (by kernel_rfl) (by kernel_rfl)) ?_
  intro W base args ds gs before hval0 hW hcnd _
  have hval : ∀ (j : Nat) t v, Try.f3.params[j]? = some t → args[j]? = some v → Value.okWide Try.prog W .any base t v := hval0
  have hW' := hW
  obtain ⟨p, q, hA0, hV, rfl, hfz, hnd⟩ := hW
  have hA : DataW.TrodAll enc Try.prog W 0 (fun _ => true) true Try.f3.params.toList args.toList ds p := hA0
  rw [Try.params3] at hA hval
  obtain ⟨v0, v1, v2, d0, d1, d2, p0, p1, p2, rfl, rfl, rfl, h0, h1, h2⟩ := trodAll_three hA
  obtain ⟨rfl, rfl⟩ := trodVars_none hV
  obtain ⟨f0, rfl, hf0, rfl⟩ := open_arr dhTurns_und22 dhTurns_und5 dhTurns_cel5 dhTurns_cel22 wf_u8 (hval 0 22 v0 rfl rfl) h0
  obtain ⟨f1, rfl, hf1, rfl⟩ := open_arr dhTurns_und22 dhTurns_und5 dhTurns_cel5 dhTurns_cel22 wf_u8 (hval 1 22 v1 rfl rfl) h1
  obtain ⟨f2, rfl, hf2, rfl⟩ := open_arr dhTurns_und22 dhTurns_und5 dhTurns_cel5 dhTurns_cel22 wf_u8 (hval 2 22 v2 rfl rfl) h2
  clear hA0 hval0
  simp only [List.append_nil] at hW'
  refine ((dhTurns_fn f0 f1 f2 hf0 hf1 hf2) W (by simp [MemR])).mono fun e W' ⟨he, hb⟩ => ?_
  subst he
  exact ⟨_, rfl, _, _, _, [], [], [], hW', trodAll_mk1 (shut_bool Try.underlying4 _), trodAll_mk3 (Trod_arr dhTurns_und22 dhTurns_und5 h0 _ _ _ _) (Trod_arr dhTurns_und22 dhTurns_und5 h1 _ _ _ _) (Trod_arr dhTurns_und22 dhTurns_und5 h2 _ _ _ _), rfl, hb.frame _, fun h => by cases h⟩

theorem dhTurns_holds : Rows.DhTurnsSaid :=
  OpenClaim.holds_of_wide 3 Try.f3 rfl rfl rfl rfl rfl rfl rfl ⟨rfl, rfl, rfl, rfl, rfl⟩ rfl rfl rfl rfl rfl (by kernel_rfl) Try.func3 (by kernel_rfl)
    (of_decide_eq_true (by kernel_rfl)) (by unfold Func.isWrapper; first | (rw [if_pos (by decide +kernel)]; kernel_rfl) | (rw [if_neg (by decide +kernel)]; exact ⟨rfl, rfl⟩))
    (fun os started H enc _ => dhTurns_lifted os started H enc)
#print axioms dhTurns_holds
end Go.Proofs.Ythhcgeoldjmpaaa
