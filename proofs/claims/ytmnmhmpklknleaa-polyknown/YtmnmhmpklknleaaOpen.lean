/-
  Arguments that are arrays of numbers, by value: opened, and read again in another world.
-/
import Derived.Test.YtmnmhmpklknleaaNum2
import Derived.ProofKit
import Derived.OpenShut
namespace Go.Proofs.Ytmnmhmpklknleaa
open Go.ChangeShapes Go.WideShapes Go.ChangeAt Go.RowKit

section
variable {H : Type} {enc : TypeId × Value → H} {P : Program} {n : Nat} {t e : TypeId} {k : IntKind}

theorem trod_int_any (he : P.underlying e = some (.int k)) (w w' : World) (b b' : Nat) (s s' : Nat → Bool) (h h' : Bool) (fuel : Nat) (cs : List Value) :
    DataW.trod enc P w b s h fuel e cs = DataW.trod enc P w' b' s' h' fuel e cs := by
  cases fuel with
  | zero => rfl
  | succ m =>
    unfold DataW.trod
    rw [he]
    match cs with
    | [] => rfl
    | [v] => cases v <;> rfl
    | v :: _ :: _ => cases v <;> rfl

theorem trod_arr_any (hT : P.underlying t = some (.array n e)) (he : P.underlying e = some (.int k)) (w w' : World) (b b' : Nat) (s s' : Nat → Bool) (h h' : Bool) (fuel : Nat) (cs : List Value) :
    DataW.trod enc P w b s h fuel t cs = DataW.trod enc P w' b' s' h' fuel t cs := by
  cases fuel with
  | zero => rfl
  | succ m =>
    unfold DataW.trod
    rw [hT]
    simp only
    congr 2
    congr 1
    funext i
    exact trod_int_any he w w' b b' s s' h h' m _

theorem Trod_arr (hT : P.underlying t = some (.array n e)) (he : P.underlying e = some (.int k)) {w : World} {b : Nat} {s : Nat → Bool} {h : Bool} {v : Value} {d : DataW H} {ps : List MemPlace}
    (hd : DataW.Trod enc P w b s h t v d ps) (w' : World) (b' : Nat) (s' : Nat → Bool) (h' : Bool) : DataW.Trod enc P w' b' s' h' t v d ps := by
  obtain ⟨fuel, hf⟩ := hd
  exact ⟨fuel, by rw [← hf]; exact trod_arr_any hT he _ _ _ _ _ _ _ _ _ _⟩

theorem open_arr {bound : Nat} (hT : P.underlying t = some (.array n e)) (he : P.underlying e = some (.int k)) (hc : P.cellsOf e = 1) (hct : P.cellsOf t = n)
    (hb : ∀ z : Int, (Lit.int k z).wf = true → 0 ≤ z ∧ z < bound) {W : World} {b0 b : Nat} {s : Nat → Bool} {h : Bool} {v : Value} {d : DataW H} {ps : List MemPlace}
    (hval : Value.okWide P W .any b0 t v) (hd : DataW.Trod enc P W b s h t v d ps) :
    ∃ f : Nat → Nat, v = .agg (arr k n f) ∧ (∀ j, j < n → f j < bound) ∧ ps = [] := by
  unfold Value.okWide at hval
  rw [hT] at hval
  obtain ⟨cs, rfl, hsz, _⟩ := hval
  rw [hct] at hsz
  obtain ⟨fuel, hf⟩ := hd
  obtain ⟨xs, m, _, ex, _, hl, hel⟩ := DataW.trod_array hT hf
  have key : ∀ i, i < n → ∃ z : Int, cs[i]? = some (.int k z) ∧ 0 ≤ z ∧ z < bound ∧ ∃ x, xs[i]? = some x ∧ x.2 = [] := fun i hi => by
    have hE := hel i hi
    have hxi : i < xs.length := by omega
    rw [hc, Nat.mul_one, List.getElem?_eq_getElem hxi] at hE
    obtain ⟨z, e1, e2, hw⟩ := DataW.trod_int he hE
    have h0 : ((cs.toList.drop i).take 1)[0]? = some (.int k z) := by
      have : (Value.agg cs).cells.toList = cs.toList := rfl
      rw [this] at e1
      rw [e1]; rfl
    refine ⟨z, by simpa using h0, (hb z hw).1, (hb z hw).2, xs[i], List.getElem?_eq_getElem hxi, by rw [e2]⟩
  refine ⟨fun i => match cs[i]? with
    | some (.int _ z) => z.toNat
    | _ => 0, ?_, fun j hj => ?_, ?_⟩
  · congr 1
    apply Array.ext_getElem?
    intro i
    by_cases hi : i < n
    · obtain ⟨z, h1, h2, _⟩ := key i hi
      rw [arr_get hi, h1]
      simp only
      congr 2
      omega
    · rw [Array.getElem?_eq_none (by omega), Array.getElem?_eq_none (by rw [arr_size]; omega)]
  · obtain ⟨z, h1, h2, h3, _⟩ := key j hj
    simp only [h1]
    omega
  · have e2 : ps = xs.flatMap (·.2) := (Prod.mk.inj ex).2
    rw [e2]
    apply List.flatMap_eq_nil_iff.2
    intro x hx
    obtain ⟨i, hi, rfl⟩ := List.getElem_of_mem hx
    obtain ⟨_, _, _, _, y, h4, h5⟩ := key i (by omega)
    rw [List.getElem?_eq_getElem hi] at h4
    rw [Option.some.inj h4]; exact h5

theorem wf_u8 (z : Int) (h : (Lit.int .u8 z).wf = true) : 0 ≤ z ∧ z < (256 : Nat) := by
  simp [Lit.wf, IntKind.min, IntKind.max, IntKind.signed, IntKind.bits] at h
  omega
theorem wf_u64 (z : Int) (h : (Lit.int .u64 z).wf = true) : 0 ≤ z ∧ z < (18446744073709551616 : Nat) := by
  simp [Lit.wf, IntKind.min, IntKind.max, IntKind.signed, IntKind.bits] at h
  omega

end
end Go.Proofs.Ytmnmhmpklknleaa
