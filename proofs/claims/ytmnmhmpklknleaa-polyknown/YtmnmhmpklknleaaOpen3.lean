/-
  How long bytes are that are handed in.
-/
import Derived.Test.YtmnmhmpklknleaaOpen2
import Derived.SizedLaws
namespace Go.Proofs.Ytmnmhmpklknleaa
open Go Go.ChangeShapes Go.WideShapes Go.ChangeAt Go.RowKit

abbrev RB : Nat := 140737488351232
section
variable {H : Type} {enc : TypeId × Value → H} {P : Program} {t e : TypeId}
theorem shows_num {B : Mem} {z n len cap : Nat} {a : Option Addr} {xs : List Value} (h : Shows B z (.slice a len cap) n xs) : len = n := by
  rcases h with ⟨h0, _, oa, c, h1, _⟩ | ⟨b, o, c, cs, t, h1, _⟩
  · injection h1 with _ h2; rw [h2, h0]
  · injection h1
theorem open_sized {W : World} {base : Nat} {s : Nat → Bool} {held : Bool} {v : Value} {d : DataW H} {ps : List MemPlace} {B : Mem} {n : Nat} {xs : List Value} (ht : P.underlying t = some (.slice e)) (he : P.underlying e = some (.int .u8)) (hc : P.cellsOf e = 1) (hby : P.bytesOf e = 1)
    (hd : DataW.Trod enc P W base s held t v d ps) (hw : ∀ k ∈ d.weights P t, k ≤ RB) (hv : Shows B 1 v n xs) : n ≤ RB := by
  have hcell : ∃ a len cap, v = .slice a len cap := by
    rcases hv with ⟨_, _, oa, c, h1, _⟩ | ⟨b, o, c, cs, t, h1, _⟩
    · exact ⟨_, _, _, h1⟩
    · exact ⟨_, _, _, h1⟩
  obtain ⟨a0, len0, cap0, rfl⟩ := hcell
  have hn := shows_num hv
  subst hn
  obtain ⟨fuel, hf⟩ := hd
  rcases open_ints ht he hc hf with ⟨h1, _⟩ | ⟨a, len, cap, zs, h1, _, hlc, hcm, hzl, hx, hz, _⟩
  · have h1 : [Value.slice a0 len0 cap0] = [.slice none 0 0] := h1
    injection h1 with h1 _
    injection h1 with _ h2
    omega
  · have h1 : [Value.slice a0 len0 cap0] = [.slice (some a) len cap] := h1
    injection h1 with h1 _
    injection h1 with _ h2
    have hlz : len ≤ zs.length := by rw [hzl]; split <;> omega
    injection hx with hx _
    subst hx
    have := hw ((lits .u8 (zs.take len)).length * 1 + (lits .u8 (zs.drop len)).length * 1) (by
      simp only [DataW.weights, ht, hby]
      rw [← Nat.add_mul]
      exact List.mem_cons_self)
    have hl : (lits (H := H) .u8 (zs.take len)).length = len := by simp [lits]; omega
    rw [hl] at this
    omega
theorem each_sized {ts : List TypeId} {ds : List (DataW H)} (h : (DataW.weightsEach P ts ds).all (· ≤ reachBytes) = true) {j : Nat} {t : TypeId} {d : DataW H} (ht : ts[j]? = some t) (hd : ds[j]? = some d) : ∀ n ∈ d.weights P t, n ≤ RB := fun n hn => by
  have := List.all_eq_true.1 h _ (DataW.weights_mem_each ht hd n hn)
  exact of_decide_eq_true this
end
end Go.Proofs.Ytmnmhmpklknleaa
