/-
  == of arrays of arrays with themselves.
-/
import Derived.Test.YtmnmhmpklknleaaEnvA
import Derived.Test.YtmnmhmpklknleaaEnvD
namespace Go.Proofs.Ytmnmhmpklknleaa
open Go Go.RowKit

section
variable {P : Program}
theorem same_array {dp : Nat} {t e : TypeId} {n m : Nat} {cs : Array Value} (hT : P.underlying t = some (.array n e)) (hs : (P.info? e).map (·.size) = some m) (h : ∀ i, i < n → ∀ w, ∃ v, (part e cs (i * m)).run P w = .ok v w ∧ Same P dp e v) : Same P (dp + 1) t (.agg cs) := fun w => by
  cases hi : P.info? e with
  | none => simp [hi] at hs
  | some i =>
    have hsz : i.size = m := by simpa [hi] using hs
    have key : ∀ l : List Nat, (∀ j ∈ l, j < n) → (forIn l ((none : Option Bool), ()) (fun i __s => do
            let __do_lift ← part e cs (i * m)
            let __do_lift_1 ← part e cs (i * m)
            let __do_lift ← Op.equalIn dp e __do_lift __do_lift_1
            if __do_lift = false then pure (ForInStep.done (some false, ())) else pure (ForInStep.yield (none, ())))).run P w
        = .ok (none, ()) w := by
      intro l
      induction l with
      | nil => intro _; rfl
      | cons j l ih =>
        intro hl
        obtain ⟨v, h1, h2⟩ := h j (hl j (by simp)) w
        rw [List.forIn_cons]
        simp only [Sem.run_bind, h1, Result.andThen_ok, h2 w]
        simp [ih (fun x hx => hl x (by simp [hx]))]
    unfold Op.equalIn
    simp only [underlying, program, sizeOf, typeInfo]
    simp [Sem.run, hT, hi, hsz]
    rw [key _ (fun j hj => by simpa using hj)]
    rfl
theorem arr_cut {k : IntKind} {N o m : Nat} {f : Nat → Nat} (h : o + m ≤ N) : (arr k N f).extract o (o + m) = arr k m (fun j => f (o + j)) := by
  apply Array.ext
  · simp [arr]; omega
  · intro i h1 h2
    simp [arr]
/-- An array of arrays of numbers. -/
theorem same_arr2 {dp : Nat} {t e ke : TypeId} {n m N : Nat} {k k' : IntKind} {f : Nat → Nat} (hN : N = n * m) (hT : P.underlying t = some (.array n e)) (hE : P.underlying e = some (.array m ke)) (hk : P.underlying ke = some (.int k')) (hs : (P.info? e).map (·.size) = some m) (hs1 : (P.info? ke).map (·.size) = some 1) : Same P (dp + 3) t (.agg (arr k N f)) :=
  same_array (dp := dp + 2) hT hs fun i hi w => by
    refine ⟨.agg (arr k m (fun j => f (i * m + j))), ?_, same_arr hE hk hs1⟩
    have hle : i * m + m ≤ N := by
      rw [hN, ← Nat.succ_mul]
      exact Nat.mul_le_mul_right _ hi
    cases hi2 : P.info? e with
    | none => simp [hi2] at hs
    | some q =>
      have hsz : q.size = m := by simpa [hi2] using hs
      unfold part
      simp only [sizeOf, typeInfo]
      simp [run_isAgg hE, rowLike, hi2, hsz, arr_cut hle]
end
end Go.Proofs.Ytmnmhmpklknleaa
