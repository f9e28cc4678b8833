/-
  What the listed variable gives a walk: the digits of the prime, in block 0.
-/
import Derived.Test.YthhcgeoldjmpaaaDoorRows
import Derived.Test.YthhcgeoldjmpaaaDoorNum4
import Derived.ProofKit
import Derived.OpenShut
import Derived.LaidMore
import Derived.Lay
import Derived.MakeChecks
namespace Go.Proofs.YthhcgeoldjmpaaaDoor
open Go.ChangeShapes Go.WideShapes Go.ChangeAt Go.RowKit

def primeZ : List Int := [65517, 65535, 65535, 65535, 65535, 65535, 65535, 65535, 65535, 65535, 65535, 65535, 65535, 65535, 65535, 32767]
theorem laid_und : Tryd.prog.underlying 41 = some (.array 16 29) := by kernel_rfl
theorem laid_undw : Tryd.prog.underlying 29 = some (.int .u64) := by kernel_rfl
theorem primeZ_d16 : ∀ r, r < 16 → primeZ.getD r 0 = (d16 PP r : Int) := by
  have h : ((List.range 16).all fun r => primeZ.getD r 0 == (d16 PP r : Int)) = true := by decide +kernel
  intro r hr
  have := (List.all_eq_true.1 h) r (by simpa using hr)
  simpa using this

theorem glob_of {W : World} (h : laidMetH Tryd.prog [("signet/signetref.prime", Rows.laid_signet_signetref_prime)] W) : MemR [⟨0, arr .u64 16 (d16 PP), 41⟩] W := by
  rw [MakeChecks.laidMetH_plain _ _ _ (by kernel_rfl)] at h
  obtain ⟨ps, ⟨g, t, cs, fuel, p, q, hg, ht, hv, hd, _, _⟩, _, _⟩ := h
  obtain rfl := Option.some.inj ((show Tryd.prog.globalNamed "signet/signetref.prime" = some 0 by kernel_rfl).symm.trans hg)
  obtain rfl := Option.some.inj ((show (Tryd.prog.globals[0]?).map (·.type) = some 41 by kernel_rfl).symm.trans ht)
  obtain ⟨xs, m, _, ex, _, hl, hel⟩ := DataW.trod_array laid_und hd
  have c5 : Tryd.prog.cellsOf 29 = 1 := by kernel_rfl
  have e3 : (xs.map (·.1)) = primeZ.map fun n => .lit (.int .u64 n) := (DataW.agg.inj (Prod.mk.inj ex).1).symm
  have key : ∀ r, r < 16 → W.cell? ⟨0, r, none⟩ = some (.int .u64 (d16 PP r : Int)) := by
    intro r hr
    have hE := hel r hr
    rw [c5, Nat.mul_one, List.getElem?_eq_getElem (by omega)] at hE
    obtain ⟨z, e1, e2, _⟩ := DataW.trod_int laid_undw hE
    have hlen : primeZ.length = 16 := rfl
    have e4 : (xs.map (·.1))[r]? = (primeZ.map fun n => (DataW.lit (.int .u64 n) : DataW Unit))[r]? := by rw [e3]
    rw [List.getElem?_map, List.getElem?_map, List.getElem?_eq_getElem (by omega : r < xs.length), List.getElem?_eq_getElem (by omega : r < primeZ.length), e2] at e4
    have hz : z = primeZ.getD r 0 := by
      simp only [Option.map_some, Option.some.injEq, DataW.lit.injEq, Lit.int.injEq, true_and] at e4
      rw [e4, List.getD, List.getElem?_eq_getElem (by omega : r < primeZ.length)]; rfl
    rw [World.var?_cell hg hv r, ← primeZ_d16 r hr, ← hz]
    have : cs.toList[r]? = some (.int .u64 z) := by
      have h0 : ((cs.toList.drop r).take 1)[0]? = some (.int .u64 z) := by rw [e1]; rfl
      simpa using h0
    simpa using this
  intro x hx
  have hx : x = ⟨0, arr .u64 16 (d16 PP), 41⟩ := by simpa using hx
  subst hx
  refine ⟨?_, fun o ho => ?_⟩
  · have h0 := key 0 (by decide)
    unfold World.cell? at h0
    cases hh : W.heap[0]? with
    | none => rw [hh] at h0; cases h0
    | some b => exact (Array.getElem?_eq_some_iff.1 hh).1
  · have ho : o < 16 := by simpa [arr_size] using ho
    rw [arr_get ho]; exact key o ho

end Go.Proofs.YthhcgeoldjmpaaaDoor
