/- The law signetkeep.ChachaKnown, for every int: it returns true, and its argument reads as it did. -/
import Derived.Test.YtmhhemhjjpdioaaRows
import Derived.Test.YtmhhemhjjpdioaaC6
import Derived.Test.YtmhhemhjjpdioaaD3
import Derived.Test.YtmhhemhjjpdioaaOpen2
namespace Go.Proofs.Ytmhhemhjjpdioaa
open Go.ChangeShapes Go.WideShapes Go.ChangeAt Go.RowKit

theorem chachaKnown_own : ownKnob Try.prog.godebug = none := by kernel_rfl
theorem chachaKnown_laid : laidOutB Try.prog = true := by kernel_rfl
theorem chachaKnown_und3 : Try.prog.underlying 3 = some (.int .i64) := by kernel_rfl

set_option maxRecDepth 100000 in
theorem chachaKnown_lifted (os : Os) (started : os.Started) (H : Type) (enc : TypeId × Value → H) :
    ReturnsInHanded {} Try.checked os 7 .any (Rows.chachaKnownSpec.pre6 enc Try.prog Try.f7 Rows.chachaKnownRow.domain false) (Rows.chachaKnownSpec.post enc Try.prog Try.f7 false true false false) := by
  refine returnsInHanded_of_change (C := Try.checked) chachaKnown_own started (by kernel_rfl) Try.func7
    (ChangeSpec.witness6 (enc := enc) (C := Try.checked) false ⟨#[], #[.int .i64 0], []⟩ 8 (by kernel_rfl) (by kernel_rfl) (by kernel_rfl) (by kernel_rfl)) ?_
  intro W base args ds gs before hval0 hW hcnd _
  have hval : ∀ (j : Nat) t v, Try.f7.params[j]? = some t → args[j]? = some v → Value.okWide Try.prog W .any base t v := hval0
  have hW' := hW
  obtain ⟨p, q, hA0, hV, rfl, hfz, hnd⟩ := hW
  have hA : DataW.TrodAll enc Try.prog W 0 (fun _ => true) true Try.f7.params.toList args.toList ds p := hA0
  rw [Try.params7] at hA hval
  have hplt := DataW.TrodAll.lt hA
  obtain ⟨v0, d0, rfl, rfl, h0⟩ := trodAll_one hA
  obtain ⟨rfl, rfl⟩ := trodVars_none hV
  have hk0 := h0
  obtain ⟨z0, rfl, rfl, rfl, wf0⟩ := open_int chachaKnown_und3 (hval 0 3 v0 rfl rfl) h0
  clear hA0 hval0
  simp only [List.append_nil] at hW'
  refine ((chachaKnown_fn (G := []) z0 (fun k c nn hk hn hc => block_fn k c nn hk hn hc)) W (by simp [MemR])).mono fun e W' ⟨he, hb⟩ => ?_
  subst he
  exact ⟨_, rfl, _, _, _, [], _, [], hW', trodAll_mk1 (shut_bool Try.underlying4 _), trodAll_mk1 (Below.trod chachaKnown_laid (by kernel_rfl) (of_decide_eq_true (by kernel_rfl)) hk0 hb (fun x hx => hplt x (by first | exact absurd hx List.not_mem_nil | simp [hx]))), rfl, hb.frame _, fun h => by cases h⟩

theorem chachaKnown_holds : Rows.ChachaKnownSaid :=
  OpenClaim.holds_of_wide 7 Try.f7 rfl rfl rfl rfl rfl rfl rfl ⟨rfl, rfl, rfl, rfl, rfl⟩ rfl rfl rfl rfl rfl (by kernel_rfl) Try.func7 (by kernel_rfl)
    (of_decide_eq_true (by kernel_rfl)) (by unfold Func.isWrapper; first | (rw [if_pos (by decide +kernel)]; kernel_rfl) | (rw [if_neg (by decide +kernel)]; exact ⟨rfl, rfl⟩))
    (fun os started H enc _ => chachaKnown_lifted os started H enc)
#print axioms chachaKnown_holds
end Go.Proofs.Ytmhhemhjjpdioaa
