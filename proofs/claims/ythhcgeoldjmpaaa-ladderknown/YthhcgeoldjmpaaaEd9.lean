/-
  The document's ladder in plain numbers, and that it is the field's. Plain arithmetic.
-/
import Derived.Test.YthhcgeoldjmpaaaEd8
namespace Go.Proofs.Ythhcgeoldjmpaaa

abbrev nSum (x y : Nat) : Nat := (x + y) % PP
abbrev nOpp (x : Nat) : Nat := (PP - x) % PP
abbrev nMul (x y : Nat) : Nat := x * y % PP
theorem nSum_lt (x y : Nat) : nSum x y < PP := Nat.mod_lt _ (by decide)
theorem nOpp_lt (x : Nat) : nOpp x < PP := Nat.mod_lt _ (by decide)
theorem nMul_lt (x y : Nat) : nMul x y < PP := Nat.mod_lt _ (by decide)
def nDbl (p : Nat × Nat) : Nat × Nat :=
  let a := nSum p.1 p.2
  let b := nSum p.1 (nOpp p.2)
  let s := nMul a a
  let d := nMul b b
  let e := nSum s (nOpp d)
  (nMul s d, nMul e (nSum d (nMul 121666 e)))
def nWith (u : Nat) (p q : Nat × Nat) : Nat × Nat :=
  let a := nMul (nSum p.1 (nOpp p.2)) (nSum q.1 q.2)
  let b := nMul (nSum p.1 p.2) (nSum q.1 (nOpp q.2))
  let s := nSum a b
  let d := nSum a (nOpp b)
  (nMul s s, nMul u (nMul d d))
def nLad (u n : Nat) : Nat → (Nat × Nat) × (Nat × Nat)
  | 0 => ((1, 0), (u, 1))
  | j + 1 => if n / 2 ^ (254 - j) % 2 = 1 then (nWith u (nLad u n j).1 (nLad u n j).2, nDbl (nLad u n j).2) else (nDbl (nLad u n j).1, nWith u (nLad u n j).1 (nLad u n j).2)
def nOut (u n : Nat) : Nat := nMul (nLad u n 255).1.1 ((nLad u n 255).1.2 ^ EE % PP)
def fp (p : Nat × Nat) : Pt := (fv p.1, fv p.2)
def Lt2 (p : Nat × Nat) : Prop := p.1 < PP ∧ p.2 < PP

theorem fv_dif {x y : Nat} (hy : y ≤ PP) : fv (nSum x (nOpp y)) = fv x - fv y := by
  rw [fv_add, fv_opp hy]
  generalize fv x = a
  generalize fv y = b
  grobner
theorem nDbl_lt (p : Nat × Nat) : Lt2 (nDbl p) := ⟨nMul_lt _ _, nMul_lt _ _⟩
theorem nWith_lt (u : Nat) (p q : Nat × Nat) : Lt2 (nWith u p q) := ⟨nMul_lt _ _, nMul_lt _ _⟩
theorem fp_dbl {p : Nat × Nat} (h : Lt2 p) : fp (nDbl p) = mDbl gC (fp p) := by
  have h2 := Nat.le_of_lt h.2
  refine Prod.ext ?_ ?_
  · show fv (nMul (nMul _ _) (nMul _ _)) = _
    rw [fv_mul, fv_mul, fv_mul, fv_add, fv_dif h2]; rfl
  · show fv (nMul (nSum (nMul _ _) (nOpp (nMul _ _))) (nSum (nMul _ _) (nMul 121666 (nSum (nMul _ _) (nOpp (nMul _ _)))))) = _
    rw [fv_mul, fv_add (nMul _ _) (nMul _ _), fv_mul 121666, fv_dif (Nat.le_of_lt (nMul_lt _ _)), fv_mul, fv_mul, fv_add, fv_dif h2]; rfl
theorem fp_with {u : Nat} {p q : Nat × Nat} (h : Lt2 p) (h' : Lt2 q) : fp (nWith u p q) = mWith (fv u) (fp p) (fp q) := by
  have h2 := Nat.le_of_lt h.2
  have h2' := Nat.le_of_lt h'.2
  refine Prod.ext ?_ ?_
  · show fv (nMul (nSum (nMul _ _) (nMul _ _)) (nSum (nMul _ _) (nMul _ _))) = _
    rw [fv_mul, fv_add (nMul _ _) (nMul _ _), fv_mul, fv_mul, fv_dif h2, fv_dif h2', fv_add, fv_add]; rfl
  · show fv (nMul u (nMul (nSum (nMul _ _) (nOpp (nMul _ _))) (nSum (nMul _ _) (nOpp (nMul _ _))))) = _
    rw [fv_mul, fv_mul, fv_dif (Nat.le_of_lt (nMul_lt _ _)), fv_mul, fv_mul, fv_dif h2, fv_dif h2', fv_add, fv_add]; rfl
theorem nLad_lt {u : Nat} (hu : u < PP) (n : Nat) : ∀ j, Lt2 (nLad u n j).1 ∧ Lt2 (nLad u n j).2
  | 0 => ⟨⟨show 1 < PP by decide, show 0 < PP by decide⟩, ⟨hu, show 1 < PP by decide⟩⟩
  | j + 1 => by
    unfold nLad
    split
    · exact ⟨nWith_lt _ _ _, nDbl_lt _⟩
    · exact ⟨nDbl_lt _, nWith_lt _ _ _⟩
theorem fp_lad {u : Nat} (hu : u < PP) (n : Nat) : ∀ j, (fp (nLad u n j).1, fp (nLad u n j).2) = ladS gC (fv u) n j
  | 0 => by
    show ((fv 1, fv 0), (fv u, fv 1)) = (((1 : F), (0 : F)), (fv u, (1 : F)))
    rw [show fv 1 = 1 by decide +kernel, show fv 0 = 0 by decide +kernel]
  | j + 1 => by
    have ih := fp_lad hu n j
    have hl := nLad_lt hu n j
    have i1 : fp (nLad u n j).1 = (ladS gC (fv u) n j).1 := congrArg Prod.fst ih
    have i2 : fp (nLad u n j).2 = (ladS gC (fv u) n j).2 := congrArg Prod.snd ih
    unfold nLad ladS
    split
    · show (fp (nWith _ _ _), fp (nDbl _)) = _
      rw [fp_with hl.1 hl.2, fp_dbl hl.2, i1, i2]
    · show (fp (nDbl _), fp (nWith _ _ _)) = _
      rw [fp_with hl.1 hl.2, fp_dbl hl.1, i1, i2]
theorem nOut_lt (u n : Nat) : nOut u n < PP := nMul_lt _ _
theorem fv_out {u : Nat} (hu : u < PP) (n : Nat) : fv (nOut u n) = ladO gC (fv u) n := by
  have h := fp_lad hu n 255
  unfold nOut ladO
  rw [fv_mul, fv_inv, ← h]; rfl
theorem nOut_turns {u m n : Nat} (hu : u < PP) (hm : m < 2 ^ 255) (hn : n < 2 ^ 255) (m2 : m % 2 = 0) (n2 : n % 2 = 0) : nOut (nOut u n) m = nOut (nOut u m) n := by
  apply fv_inj (nOut_lt _ _) (nOut_lt _ _)
  rw [fv_out (nOut_lt _ _), fv_out (nOut_lt _ _), fv_out hu, fv_out hu]
  exact dh_turns (fv u) hm hn m2 n2
theorem nOut_nine {n : Nat} (h8 : n % 8 = 0) (h0 : 0 < n) (hn : n < 2 ^ 255) : nOut 9 n ≠ 0 := fun h => by
  have := (fv_zero (nOut_lt 9 n)).2 h
  rw [fv_out (by decide), show fv 9 = 9 by decide +kernel] at this
  exact nine_nz h8 h0 hn this
theorem nOut_keys {m n : Nat} (m8 : m % 8 = 0) (m0 : 0 < m) (hm : m < 2 ^ 255) (n8 : n % 8 = 0) (n0 : 0 < n) (hn : n < 2 ^ 255) : nOut (nOut 9 n) m ≠ 0 := fun h => by
  have := (fv_zero (nOut_lt _ m)).2 h
  rw [fv_out (nOut_lt _ _), fv_out (by decide), show fv 9 = 9 by decide +kernel] at this
  exact keys_nz m8 m0 hm n8 n0 hn this
theorem nOut_zero (n : Nat) : nOut 0 n = 0 := by
  apply (fv_zero (nOut_lt 0 n)).1
  rw [fv_out (by decide), show fv 0 = 0 by decide +kernel]
  exact ladO_zero gC n

end Go.Proofs.Ythhcgeoldjmpaaa
