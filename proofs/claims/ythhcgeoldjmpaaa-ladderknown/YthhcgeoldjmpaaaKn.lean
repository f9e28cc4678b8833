/-
  The points of RFC 7748, chapter 6.1, reckoned in plain numbers.
-/
import Derived.Test.YthhcgeoldjmpaaaPts
import Derived.Test.YthhcgeoldjmpaaaEnv4
namespace Go.Proofs.Ythhcgeoldjmpaaa
open Go Go.RowKit

def chk (y : Nat) (L : (Nat × Nat) × (Nat × Nat)) : Bool := y * L.1.2 % PP == L.1.1 && !(L.1.2 == 0)
theorem nOut_chk {u n y : Nat} (hu : u < PP) (hy : y < PP) (h : chk y (nLad u n 255) = true) : nOut u n = y := by
  simp only [chk, Bool.and_eq_true, beq_iff_eq, Bool.not_eq_true'] at h
  obtain ⟨h1, h2⟩ := h
  have hl := nLad_lt hu n 255
  have hz : (nLad u n 255).1.2 ≠ 0 := fun e => by rw [e] at h2; simp at h2
  apply fv_inj (nOut_lt _ _) hy
  unfold nOut
  rw [fv_mul, fv_inv, ← h1, fv_mul]
  have hne : fv (nLad u n 255).1.2 ≠ 0 := fun e => hz ((fv_zero hl.1.2).1 e)
  have := iv_mul hne
  generalize fv (nLad u n 255).1.2 = z at *
  generalize fv y = t
  generalize iv z = i at *
  clear h1 h2 hz hl
  grobner
def kA (t : Nat) : Nat := [119, 7, 109, 10, 115, 24, 165, 125, 60, 22, 193, 114, 81, 178, 102, 69, 223, 76, 47, 135, 235, 192, 153, 42, 177, 119, 251, 165, 29, 185, 44, 42].getD t 0
def kB (t : Nat) : Nat := [93, 171, 8, 126, 98, 74, 138, 75, 121, 225, 127, 139, 131, 128, 14, 230, 111, 59, 177, 41, 38, 24, 182, 253, 28, 47, 139, 39, 255, 136, 224, 235].getD t 0
def kAB (t : Nat) : Nat := if t < 32 then kA t else kB (t - 32)
def yA : Nat := 0x6a4e9baa8ea9a4ebf41a38260d3abf0d5af73eb4dc7d8b7454a7308909f02085
def yB : Nat := 0x4f2b886f147efcad4d67785bc843833f3735e4ecc2615bd3b4c17d7b7ddb9ede
theorem kA_lt : ∀ j, j < 32 → kA j < 256 := by decide +kernel
theorem kB_lt : ∀ j, j < 32 → kB j < 256 := by decide +kernel
theorem known_a : nOut 9 (sec kA) = yA := nOut_chk (by decide) (by decide +kernel) (by decide +kernel)
theorem known_b : nOut 9 (sec kB) = yB := nOut_chk (by decide) (by decide +kernel) (by decide +kernel)
theorem kAB_0 : Value.agg (arr .u8 32 (fun t => kAB (0 + t))) = .agg (arr .u8 32 kA) := congrArg Value.agg (arr_congr fun j hj => by unfold kAB; rw [Nat.zero_add, if_pos hj])
theorem kAB_32 : Value.agg (arr .u8 32 (fun t => kAB (32 + t))) = .agg (arr .u8 32 kB) := congrArg Value.agg (arr_congr fun j hj => by unfold kAB; rw [if_neg (by omega), Nat.add_sub_cancel_left])
/-- What picked answers for 2. -/
def pk2 (z : Int) : Nat := if z.tmod 2 = 0 then 0 else 1
theorem tm2 (z : Int) : z.tmod 2 = 0 ∨ z.tmod 2 = 1 ∨ z.tmod 2 = -1 := by
  rcases Int.le_total 0 z with h | h
  · rw [Int.tmod_eq_emod_of_nonneg h]; omega
  · have e : z.tmod 2 = -((-z).tmod 2) := by rw [Int.neg_tmod, Int.neg_neg]
    rw [e, Int.tmod_eq_emod_of_nonneg (by omega)]; omega
theorem pk2_neg {z : Int} (h : z.tmod 2 < 0) : z.tmod 2 + 2 = ((pk2 z : Nat) : Int) := by
  have h1 : z.tmod 2 = -1 := by have := tm2 z; omega
  unfold pk2; rw [if_neg (by omega), h1]; rfl
theorem pk2_pos {z : Int} (h : ¬ z.tmod 2 < 0) : z.tmod 2 = ((pk2 z : Nat) : Int) := by
  unfold pk2
  split
  · assumption
  · have : z.tmod 2 = 1 := by have := tm2 z; omega
    rw [this]; rfl
theorem pk2_two (z : Int) : pk2 z = 0 ∨ pk2 z = 1 := by
  unfold pk2; split
  · exact .inl rfl
  · exact .inr rfl
theorem str_a : ((strOfNums ((List.range 4).map fun j => (bt yA (0 + j) : Int))).toList == (ByteArray.mk #[133, 32, 240, 9]).toList) = true := by decide +kernel
theorem str_b : ((strOfNums ((List.range 4).map fun j => (bt yB (0 + j) : Int))).toList == (ByteArray.mk #[222, 158, 219, 125]).toList) = true := by decide +kernel

end Go.Proofs.Ythhcgeoldjmpaaa
