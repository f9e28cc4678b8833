/-
  The program's ladder in plain numbers: that it is the document's; secrets that are clamped; the bits of a secret. Plain arithmetic.
-/
import Derived.Test.YthhcgeoldjmpaaaEd9
import Derived.Test.YthhcgeoldjmpaaaNum6
namespace Go.Proofs.Ythhcgeoldjmpaaa
open Go

theorem fv_lin (x : Nat) : fv (121666 * x % PP) = fv (121665 * x % PP) + fv x := by
  rw [fv_mod, fv_mod, show 121666 * x = 121665 * x + x by omega, fv_plus]
theorem dbl_x {x z p m : Nat} (hz : z < PP) (hp : p = (x + z) % PP * ((x + z) % PP) % PP) (hm : m = (x + PP - z) % PP * ((x + PP - z) % PP) % PP) : p * m % PP = (nDbl (x, z)).1 := by
  show _ = nMul (nMul (nSum x z) (nSum x z)) (nMul (nSum x (nOpp z)) (nSum x (nOpp z)))
  unfold nMul nSum nOpp
  rw [opp_eq x z hz, ← hp, ← hm]
theorem dbl_z {x z p m r : Nat} (hz : z < PP) (hp : p = (x + z) % PP * ((x + z) % PP) % PP) (hm : m = (x + PP - z) % PP * ((x + PP - z) % PP) % PP) (hr : r = (p + PP - m) % PP) :
    r * ((p + 121665 * r % PP) % PP) % PP = (nDbl (x, z)).2 := by
  have hm2 : m < PP := by rw [hm]; exact Nat.mod_lt _ (by decide)
  have e : (nDbl (x, z)).2 = r * ((m + 121666 * r % PP) % PP) % PP := by
    show nMul (nSum (nMul (nSum x z) (nSum x z)) (nOpp (nMul (nSum x (nOpp z)) (nSum x (nOpp z))))) (nSum (nMul (nSum x (nOpp z)) (nSum x (nOpp z))) (nMul 121666 (nSum (nMul (nSum x z) (nSum x z)) (nOpp (nMul (nSum x (nOpp z)) (nSum x (nOpp z))))))) = _
    unfold nMul nSum nOpp
    rw [opp_eq x z hz, ← hp, ← hm, opp_eq p m hm2, ← hr]
  rw [e]
  apply fv_inj (Nat.mod_lt _ (by decide)) (Nat.mod_lt _ (by decide))
  rw [fv_mul, fv_mul, fv_add, fv_add, fv_lin, hr, fv_sub (Nat.le_of_lt hm2)]
  generalize fv (121665 * ((p + PP - m) % PP) % PP) = a
  generalize fv p = b
  generalize fv m = c
  clear e hr hm hp
  grobner
theorem with_ab {x0 z0 x1 z1 a b : Nat} (h0 : z0 < PP) (h1 : z1 < PP) (u : Nat) (ha : a = (x1 + PP - z1) % PP * ((x0 + z0) % PP) % PP) (hb : b = (x1 + z1) % PP * ((x0 + PP - z0) % PP) % PP) :
    nWith u (x1, z1) (x0, z0) = ((a + b) % PP * ((a + b) % PP) % PP, u * ((a + PP - b) % PP * ((a + PP - b) % PP) % PP) % PP) := by
  have h2 : b < PP := by rw [hb]; exact Nat.mod_lt _ (by decide)
  unfold nWith nMul nSum nOpp
  simp only []
  rw [opp_eq x1 z1 h1, opp_eq x0 z0 h0, ← ha, ← hb, opp_eq _ _ h2]
theorem with_turns {x0 z0 x1 z1 : Nat} (h0 : z0 < PP) (h1 : z1 < PP) (u : Nat) : nWith u (x1, z1) (x0, z0) = nWith u (x0, z0) (x1, z1) := by
  unfold nWith nMul nSum nOpp
  simp only []
  refine Prod.ext ?_ ?_
  · apply fv_inj (Nat.mod_lt _ (by decide)) (Nat.mod_lt _ (by decide))
    simp only [fv_mul, fv_add, fv_opp (Nat.le_of_lt h0), fv_opp (Nat.le_of_lt h1)]
    generalize fv x0 = a
    generalize fv z0 = b
    generalize fv x1 = c
    generalize fv z1 = d
    grobner
  · have e1 : (x1 + z1) % PP * ((x0 + (PP - z0) % PP) % PP) % PP ≤ PP := Nat.le_of_lt (Nat.mod_lt _ (by decide))
    have e2 : (x0 + z0) % PP * ((x1 + (PP - z1) % PP) % PP) % PP ≤ PP := Nat.le_of_lt (Nat.mod_lt _ (by decide))
    apply fv_inj (Nat.mod_lt _ (by decide)) (Nat.mod_lt _ (by decide))
    simp only [fv_mul, fv_add, fv_opp (Nat.le_of_lt h0), fv_opp (Nat.le_of_lt h1), fv_opp e1, fv_opp e2]
    generalize fv x0 = a
    generalize fv z0 = b
    generalize fv x1 = c
    generalize fv z1 = d
    generalize fv u = f
    clear e1 e2
    grobner

/-! ### Secrets -/
def clam (f : Nat → Nat) : Nat → Nat := upd (upd f 0 (f 0 - f 0 % 8)) 31 (f 31 % 64 + 64)
def sec (f : Nat → Nat) : Nat := vb (clam f) 32
theorem clam_lt {f : Nat → Nat} (hf : ∀ j, j < 32 → f j < 256) : ∀ j, j < 32 → clam f j < 256 := fun j hj => by
  have h0 := hf 0 (by decide)
  have := hf j hj
  unfold clam upd
  split
  · omega
  · split <;> omega
theorem clam_twice (f : Nat → Nat) : ∀ j, j < 32 → clam (clam f) j = clam f j := fun j hj => by
  unfold clam upd
  by_cases h31 : j = 31
  · subst h31; simp
  · by_cases h0 : j = 0
    · subst h0; simp; omega
    · simp [h31, h0]
theorem sec_twice (f : Nat → Nat) : sec (clam f) = sec f := vb_congr 32 (clam_twice f)
theorem vb_head (f : Nat → Nat) : ∀ k, ∃ t, vb f (k + 1) = f 0 + 256 * t
  | 0 => ⟨0, by simp [vb]⟩
  | k + 1 => by
    obtain ⟨t, ht⟩ := vb_head f k
    refine ⟨t + f (k + 1) * 2 ^ (8 * k), ?_⟩
    rw [vb_succ, ht, show 8 * (k + 1) = 8 * k + 8 by omega, Nat.pow_add]
    rw [Nat.mul_add, ← Nat.add_assoc]
    congr 1
    rw [show (2 : Nat) ^ 8 = 256 by decide, Nat.mul_comm 256 (f (k + 1) * 2 ^ (8 * k)), Nat.mul_assoc]
theorem sec_eight (f : Nat → Nat) : sec f % 8 = 0 := by
  obtain ⟨t, ht⟩ := vb_head (clam f) 31
  unfold sec
  rw [ht]
  have : clam f 0 % 8 = 0 := by unfold clam upd; simp; omega
  omega
theorem sec_two (f : Nat → Nat) : sec f % 2 = 0 := by have := sec_eight f; omega
theorem sec_top {f : Nat → Nat} (hf : ∀ j, j < 32 → f j < 256) : 0 < sec f ∧ sec f < 2 ^ 255 := by
  have h1 := vb_lt (clam f) 31 (fun j hj => clam_lt hf j (by omega))
  have h2 : clam f 31 = f 31 % 64 + 64 := by unfold clam upd; simp
  unfold sec
  rw [vb_succ, h2]
  rw [show 8 * 31 = 248 by decide] at *
  omega
theorem vb_bit {g : Nat → Nat} (hg : ∀ j, j < 32 → g j < 256) (i : Nat) (hi : i < 255) : g (i / 8) / 2 ^ (i % 8) % 2 = vb g 32 / 2 ^ i % 2 := by
  have h := bt_vb g 32 hg (i / 8) (by omega)
  rw [← h]
  unfold bt
  generalize vb g 32 = x
  have e : i = 8 * (i / 8) + i % 8 := by omega
  conv => rhs; rw [e, Nat.pow_add, ← Nat.div_div_eq_div_mul]
  generalize x / 2 ^ (8 * (i / 8)) = y
  have hm := Nat.mod_lt i (show 0 < 8 by decide)
  generalize i % 8 = s at *
  have : s = 0 ∨ s = 1 ∨ s = 2 ∨ s = 3 ∨ s = 4 ∨ s = 5 ∨ s = 6 ∨ s = 7 := by omega
  rcases this with rfl | rfl | rfl | rfl | rfl | rfl | rfl | rfl <;> simp <;> omega
theorem bit_word {g : Nat → Nat} (hg : ∀ j, j < 32 → g j < 256) (i : Nat) (hi : i < 255) : (g (i / 8) / 2 ^ (i % 8) % 18446744073709551616 &&& 1) % 18446744073709551616 = vb g 32 / 2 ^ i % 2 := by
  rw [← vb_bit hg i hi, Nat.and_one_is_mod]
  have h1 : g (i / 8) / 2 ^ (i % 8) ≤ g (i / 8) := Nat.div_le_self _ _
  have h2 := hg (i / 8) (by omega)
  generalize g (i / 8) / 2 ^ (i % 8) = t at *
  omega

/-! ### One step of the program's ladder -/
def swp (b : Nat) (L : (Nat × Nat) × (Nat × Nat)) : (Nat × Nat) × (Nat × Nat) := if b = 1 then (L.2, L.1) else L
theorem lad_step {U N i : Nat} (hU : U < PP) (hi : i < 255) {L : (Nat × Nat) × (Nat × Nat)} {b : Nat} (hb : b = N / 2 ^ i % 2) (hL : L = swp b (nLad U N (255 - (i + 1)))) :
    swp b (nDbl L.1, nWith U L.1 L.2) = nLad U N (255 - i) := by
  have e : 255 - i = (254 - i) + 1 := by omega
  have e1 : 255 - (i + 1) = 254 - i := by omega
  have e2 : 254 - (254 - i) = i := by omega
  have hl := nLad_lt hU N (254 - i)
  rw [e1] at hL
  rw [e]
  show _ = (if N / 2 ^ (254 - (254 - i)) % 2 = 1 then _ else _)
  rw [e2, ← hb, hL]
  unfold swp
  by_cases h : b = 1
  · rw [if_pos h, if_pos h, if_pos h]
    have := with_turns hl.1.2 hl.2.2 U (x0 := (nLad U N (254 - i)).1.1) (x1 := (nLad U N (254 - i)).2.1)
    exact Prod.ext this rfl
  · rw [if_neg h, if_neg h, if_neg h]
theorem swp_lt {b : Nat} {L : (Nat × Nat) × (Nat × Nat)} (h : Lt2 L.1 ∧ Lt2 L.2) : Lt2 (swp b L).1 ∧ Lt2 (swp b L).2 := by
  unfold swp; split
  · exact ⟨h.2, h.1⟩
  · exact h

/-! ### A point's bytes -/
def pnt (f : Nat → Nat) : Nat := vb f 32 % 2 ^ 255 % PP
theorem pnt_lt (f : Nat → Nat) : pnt f < PP := Nat.mod_lt _ (by decide)
theorem pnt_bt {y : Nat} (hy : y < PP) : pnt (bt y) = y := vb_back y hy
theorem pnt_none : pnt (fun _ => 0) = 0 := by decide +kernel
theorem pnt_nine : pnt (upd (fun _ => 0) 0 9) = 9 := by decide +kernel
theorem bt_none {y : Nat} (hy : y < PP) : allEq 32 (bt y) (fun _ => 0) = decide (y = 0) := by
  by_cases h : y = 0
  · subst h
    rw [decide_eq_true rfl]
    exact allEq_iff.2 fun j _ => by unfold bt; simp
  · rw [decide_eq_false h]
    cases hb : allEq 32 (bt y) (fun _ => 0) with
    | false => rfl
    | true =>
      have h1 := allEq_iff.1 hb
      have h2 := vb_back y hy
      rw [vb_congr 32 h1] at h2
      exact absurd (show y = 0 from h2.symm.trans pnt_none) h
theorem pnt_top (f g : Nat → Nat) (h : ∀ j, j < 31 → f j = g j) (h2 : f 31 % 128 = g 31 % 128) : pnt f = pnt g := by
  unfold pnt
  congr 1
  rw [vb_succ f 31, vb_succ g 31, vb_congr 31 h, show 8 * 31 = 248 by decide]
  omega

end Go.Proofs.Ythhcgeoldjmpaaa
