/-
  The document's points as arrays of digits. Plain arithmetic.
-/
import Derived.Test.YthhcgeoldjmpaaaDoorPts
namespace Go.Proofs.YthhcgeoldjmpaaaDoor
open Go Go.RowKit

abbrev p2v (p : Nat × Nat) : Value := .agg (arr .u64 32 (pt2 p.1 p.2))
theorem p2_0 (p : Nat × Nat) : Value.agg (arr .u64 16 (fun t => pt2 p.1 p.2 (0 + t))) = dg p.1 := congrArg Value.agg (pt2_lo _ _)
theorem p2_16 (p : Nat × Nat) : Value.agg (arr .u64 16 (fun t => pt2 p.1 p.2 (16 + t))) = dg p.2 := congrArg Value.agg (pt2_hi _ _)
theorem lt256 {x : Nat} (h : x < PP) : x < 2 ^ 256 := Nat.lt_trans h (by decide)
theorem dg_a24 : Value.agg (arr .u64 16 (upd (upd (fun _ => 0) 0 56130) 1 1)) = dg 121666 := congrArg Value.agg (arr_congr (by decide +kernel))
theorem d16_none (j : Nat) : d16 0 j = 0 := by unfold d16; simp
theorem p2_one : Value.agg (arr .u64 32 (fun t => if t < 16 then d16 1 t else 0)) = p2v (1, 0) := congrArg Value.agg (arr_congr fun j _ => by unfold pt2; rw [d16_none])
def nStep (U b : Nat) (L : (Nat × Nat) × (Nat × Nat)) : (Nat × Nat) × (Nat × Nat) := if b = 1 then (nWith U L.1 L.2, nDbl L.2) else (nDbl L.1, nWith U L.1 L.2)
theorem nStep_yes {U b : Nat} {L : (Nat × Nat) × (Nat × Nat)} (h : b = 1) : nStep U b L = (nWith U L.1 L.2, nDbl L.2) := if_pos h
theorem nStep_no {U b : Nat} {L : (Nat × Nat) × (Nat × Nat)} (h : ¬ b = 1) : nStep U b L = (nDbl L.1, nWith U L.1 L.2) := if_neg h
theorem nLad_step (U N m : Nat) : nLad U N (m + 1) = nStep U (N / 2 ^ (254 - m) % 2) (nLad U N m) := rfl
theorem clam_ref {f : Nat → Nat} (hf : ∀ j, j < 32 → f j < 256) {v0 v1 : Nat} (h0 : v0 = (f 0 + 256 - f 0 % 8) % 256) (h1 : v1 = (f 31 % 64 + 64) % 256) :
    arr .u8 32 (upd (upd f 0 v0) 31 v1) = arr .u8 32 (clam f) := arr_congr fun j hj => by
  subst h0 h1
  have := hf 0 (by decide)
  unfold clam upd
  split
  · omega
  · split
    · omega
    · rfl
theorem vs_lt16 (y : Nat) : ∀ j, j < 16 → d16 y j < 65536 := fun j _ => d16_lt y j

end Go.Proofs.YthhcgeoldjmpaaaDoor
