/-
  Arguments that are structs of numbers, bools and strings: opened, part by part.
-/
import Derived.Test.YtmnmhmpklknleaaOpen2
import Derived.Test.YtmnmhmpklknleaaEnv9
namespace Go.Proofs.Ytmnmhmpklknleaa
open Go Go.ChangeShapes Go.WideShapes Go.ChangeAt Go.RowKit

section
variable {P : Program} {t : TypeId}
theorem open_cells {W : World} {b0 : Nat} {v : Value} {ts : List TypeId} {fs : Array Field} (hT : P.underlying t = some (.struct fs)) (hct : P.cellTypes P.depth t = some ts) (hsz : P.cellsOf t = ts.length) (hval : Value.okWide P W .any b0 t v) :
    ∃ cs, v = .agg cs ∧ cs.size = ts.length ∧ ∀ (i : Nat) u, ts[i]? = some u → ∃ x, cs[i]? = some x ∧ Cell.okWide P W .any b0 u x := by
  unfold Value.okWide at hval
  rw [hT] at hval
  obtain ⟨cs, rfl, h1, ts', h2, _, h3⟩ := hval
  have e : ts' = ts := Option.some.inj (h2.symm.trans hct)
  subst e
  refine ⟨cs, rfl, h1.trans hsz, fun i u hi => ?_⟩
  have hlt : i < ts'.length := (List.getElem?_eq_some_iff.1 hi).1
  have hcs : i < cs.size := by omega
  obtain ⟨u', h4, h5⟩ := h3 i cs[i] (Array.getElem?_eq_getElem hcs)
  rw [Nat.mod_eq_of_lt hlt, hi] at h4
  injection h4 with h4
  subst h4
  exact ⟨_, Array.getElem?_eq_getElem hcs, h5⟩
theorem cell_int {W : World} {b0 : Nat} {u : TypeId} {x : Value} {k : IntKind} (hu : P.underlying u = some (.int k)) (h : Cell.okWide P W .any b0 u x) : ∃ z : Int, x = .int k z ∧ k.has z := by
  unfold Cell.okWide at h
  rw [hu] at h
  unfold Cell.ok at h
  rw [hu] at h
  cases x <;> simp_all
theorem cell_bool {W : World} {b0 : Nat} {u : TypeId} {x : Value} (hu : P.underlying u = some .bool) (h : Cell.okWide P W .any b0 u x) : ∃ b : Bool, x = .bool b := by
  unfold Cell.okWide at h
  rw [hu] at h
  unfold Cell.ok at h
  rw [hu] at h
  cases x <;> simp_all
theorem cell_str {W : World} {b0 : Nat} {u : TypeId} {x : Value} (hu : P.underlying u = some .string) (h : Cell.okWide P W .any b0 u x) : ∃ l : List Nat, (∀ b ∈ l, b < 256) ∧ x = sv l := by
  unfold Cell.okWide at h
  rw [hu] at h
  unfold Cell.ok at h
  rw [hu] at h
  cases x with
  | string s =>
    obtain ⟨l, hl, rfl⟩ := str_list s
    exact ⟨l, hl, rfl⟩
  | _ => simp_all
/-- A row of numbers without a sign. -/
theorem seg_nat {W : World} {b0 : Nat} {ts : List TypeId} {cs : Array Value} (hc : ∀ (i : Nat) u, ts[i]? = some u → ∃ x, cs[i]? = some x ∧ Cell.okWide P W .any b0 u x) (off len : Nat) {u : TypeId} {k : IntKind} {bound : Nat} (hu : P.underlying u = some (.int k)) (hb : ∀ z : Int, k.has z → 0 ≤ z ∧ z < bound) (hts : ∀ j, j < len → ts[off + j]? = some u) :
    ∃ f : Nat → Nat, (∀ j, j < len → cs[off + j]? = some (.int k (f j : Int))) ∧ ∀ j, j < len → f j < bound := by
  have key : ∀ j, j < len → ∃ z : Int, cs[off + j]? = some (.int k z) ∧ 0 ≤ z ∧ z < bound := fun j hj => by
    obtain ⟨x, h1, h2⟩ := hc _ _ (hts j hj)
    obtain ⟨z, rfl, h3⟩ := cell_int hu h2
    exact ⟨z, h1, hb z h3⟩
  refine ⟨fun j => match cs[off + j]? with
    | some (.int _ z) => z.toNat
    | _ => 0, fun j hj => ?_, fun j hj => ?_⟩
  · obtain ⟨z, h1, h2, _⟩ := key j hj
    simp only [h1]
    congr 2
    omega
  · obtain ⟨z, h1, h2, h3⟩ := key j hj
    simp only [h1]
    omega
theorem seg_int {W : World} {b0 : Nat} {ts : List TypeId} {cs : Array Value} (hc : ∀ (i : Nat) u, ts[i]? = some u → ∃ x, cs[i]? = some x ∧ Cell.okWide P W .any b0 u x) (off : Nat) {u : TypeId} {k : IntKind} (hu : P.underlying u = some (.int k)) (hts : ts[off]? = some u) :
    ∃ z : Int, (∀ j, j < 1 → cs[off + j]? = some (.int k z)) ∧ k.has z := by
  obtain ⟨x, h1, h2⟩ := hc _ _ hts
  obtain ⟨z, rfl, h3⟩ := cell_int hu h2
  exact ⟨z, fun j hj => by rw [show off + j = off by omega]; exact h1, h3⟩
theorem seg_bool {W : World} {b0 : Nat} {ts : List TypeId} {cs : Array Value} (hc : ∀ (i : Nat) u, ts[i]? = some u → ∃ x, cs[i]? = some x ∧ Cell.okWide P W .any b0 u x) (off : Nat) {u : TypeId} (hu : P.underlying u = some .bool) (hts : ts[off]? = some u) :
    ∃ b : Bool, ∀ j, j < 1 → cs[off + j]? = some (.bool b) := by
  obtain ⟨x, h1, h2⟩ := hc _ _ hts
  obtain ⟨b, rfl⟩ := cell_bool hu h2
  exact ⟨b, fun j hj => by rw [show off + j = off by omega]; exact h1⟩
theorem seg_str {W : World} {b0 : Nat} {ts : List TypeId} {cs : Array Value} (hc : ∀ (i : Nat) u, ts[i]? = some u → ∃ x, cs[i]? = some x ∧ Cell.okWide P W .any b0 u x) (off : Nat) {u : TypeId} (hu : P.underlying u = some .string) (hts : ts[off]? = some u) :
    ∃ l : List Nat, (∀ j, j < 1 → cs[off + j]? = some (sv l)) ∧ ∀ b ∈ l, b < 256 := by
  obtain ⟨x, h1, h2⟩ := hc _ _ hts
  obtain ⟨l, hl, rfl⟩ := cell_str hu h2
  exact ⟨l, fun j hj => by rw [show off + j = off by omega]; exact h1, hl⟩
def SegOk (cs : Array Value) : Nat → List Part → Prop
  | _, [] => True
  | off, p :: ps => (∀ j, j < p.1 → cs[off + j]? = some (p.2 j)) ∧ SegOk cs (off + p.1) ps
def total : List Part → Nat
  | [] => 0
  | p :: ps => p.1 + total ps
theorem seg_cat {cs : Array Value} : ∀ (ps : List Part) (off : Nat), SegOk cs off ps → ∀ i, i < total ps → cs[off + i]? = some (catF ps i)
  | [], _, _, i, hi => by simp [total] at hi
  | p :: ps, off, ⟨h1, h2⟩, i, hi => by
    simp only [catF]
    by_cases hp : i < p.1
    · rw [if_pos hp]; exact h1 i hp
    · rw [if_neg hp]
      have := seg_cat ps (off + p.1) h2 (i - p.1) (by simp only [total] at hi; omega)
      rw [show off + p.1 + (i - p.1) = off + i by omega] at this
      exact this
theorem cells_make {cs : Array Value} {N : Nat} {ps : List Part} (hs : cs.size = N) (ht : total ps = N) (h : SegOk cs 0 ps) : cs = cells N ps := by
  apply Array.ext_getElem?
  intro i
  by_cases hi : i < N
  · have := seg_cat ps 0 h i (by omega)
    rw [Nat.zero_add] at this
    rw [this, arrv_get hi]
  · rw [Array.getElem?_eq_none (by omega), Array.getElem?_eq_none (by rw [arrv_size]; omega)]
theorem has_u8 (z : Int) (h : IntKind.u8.has z) : 0 ≤ z ∧ z < (256 : Nat) := by
  simp [IntKind.has, IntKind.min, IntKind.max, IntKind.signed, IntKind.bits] at h
  omega
theorem has_u32 (z : Int) (h : IntKind.u32.has z) : 0 ≤ z ∧ z < (4294967296 : Nat) := by
  simp [IntKind.has, IntKind.min, IntKind.max, IntKind.signed, IntKind.bits] at h
  omega
theorem has_u64 (z : Int) (h : IntKind.u64.has z) : 0 ≤ z ∧ z < (18446744073709551616 : Nat) := by
  simp [IntKind.has, IntKind.min, IntKind.max, IntKind.signed, IntKind.bits] at h
  omega
theorem has_i64 (z : Int) (h : IntKind.i64.has z) : -9223372036854775808 ≤ z ∧ z < 9223372036854775808 := by
  simp [IntKind.has, IntKind.min, IntKind.max, IntKind.signed, IntKind.bits] at h
  omega
end
end Go.Proofs.Ytmnmhmpklknleaa
