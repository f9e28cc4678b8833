/-
  Bytes that are cut in three; a key whose first half is nought.
-/
import Derived.Test.YtmnmhmpklknleaaPol5
import Derived.Test.YtmnmhmpklknleaaCh4
namespace Go.Proofs.Ytmnmhmpklknleaa
open Go Go.RowKit

def cut3 (i j n x : Nat) : Nat := if x = 0 then 0 else if x = 1 then i else if x = 2 then j else n
theorem cut3_le {i j n x : Nat} (hij : i ≤ j) (hjn : j ≤ n) (hx : x < 3) : cut3 i j n x ≤ cut3 i j n (x + 1) ∧ cut3 i j n (x + 1) ≤ n := by
  have : x = 0 ∨ x = 1 ∨ x = 2 := by omega
  rcases this with rfl | rfl | rfl
  · exact ⟨Nat.zero_le _, Nat.le_trans hij hjn⟩
  · exact ⟨hij, hjn⟩
  · exact ⟨hjn, Nat.le_refl _⟩
theorem take_part (l : List Nat) {a b : Nat} (h : a ≤ b) : l.take a ++ (l.drop a).take (b - a) = l.take b := by
  rw [← List.take_add, show a + (b - a) = b by omega]
theorem conv_from (f : Nat → Nat) (o n : Nat) : Value.string (strOfNums ((List.range n).map fun j => (f (o + j) : Int))) = sv ((List.range n).map fun j => f (o + j)) := by
  have e : ((List.range n).map fun j => (f (o + j) : Int)) = ((List.range n).map fun j => f (o + j)).map fun m : Nat => (m : Int) := by
    rw [List.map_map]
    exact List.map_congr_left fun j _ => by simp
  rw [e, str_nums]
theorem pst_zero (A : Nat) (l : List Nat) : pst 0 A l = 0 := by unfold pst; simp
theorem accs_zero (S : List Nat) : ∀ k, accs 0 0 S k = 0
  | 0 => rfl
  | _ + 1 => pst_zero _ _
theorem accE_zero (m : List Nat) : accE 0 m = 0 := by
  unfold accE
  split
  · exact accs_zero m _
  · exact pst_zero _ _
theorem leN_all0 : ∀ (l : List Nat), (∀ b ∈ l, b = 0) → leN l = 0
  | [], _ => rfl
  | b :: l, h => by
    rw [leN, h b (by simp), leN_all0 l (fun x hx => h x (by simp [hx]))]
theorem leN_two (l : List Nat) (hl : 8 ≤ l.length) : leN (l.take 8) + leN (l.drop 8) * 2 ^ 64 = leN l := by
  have h := leN_app (l.take 8) (l.drop 8)
  rw [List.take_append_drop] at h
  have e : (l.take 8).length = 8 := by simp; omega
  rw [e] at h
  rw [h]
  have : (256 : Nat) ^ 8 = 2 ^ 64 := by decide
  rw [this, Nat.mul_comm (2 ^ 64)]
theorem ptg_zero {z f : Nat → Nat} (h0 : ∀ j, j < 16 → z j = 0) (h1 : ∀ j, 16 ≤ j → j < 32 → z j = f j) (hf : ∀ j, j < 32 → f j < 256) (m : List Nat) {i : Nat} (hi : i < 16) : ptg z m i = f (16 + i) := by
  have hmz : ∀ j, j < 16 → msk z j = 0 := fun j hj => by
    unfold msk
    rw [h0 j hj]
    split
    · simp
    · split <;> simp
  have hmf : ∀ j, 16 ≤ j → j < 32 → msk z j = f j := fun j h2 h3 => by
    unfold msk
    rw [if_neg (by omega), if_neg (by omega), h1 j h2 h3]
  have eR : ∀ q, q < 2 → w8 (bL z) q = 0 := fun q hq => by
    unfold w8
    refine leN_all0 _ fun b hb => ?_
    obtain ⟨j, hj, rfl⟩ := List.getElem_of_mem hb
    have hj8 : j < 8 := by simp at hj; omega
    simp only [List.getElem_take, List.getElem_drop, bL, List.getElem_map, List.getElem_range]
    exact hmz _ (by omega)
  have eK : k3 (w8 (bL z)) = 0 := by unfold k3; rw [eR 0 (by decide), eR 1 (by decide)]
  have eL : (bL z).drop 16 = (List.range 16).map fun j => f (16 + j) := by
    apply List.ext_getElem
    · simp [bL]
    · intro j h2 h3
      have hj : j < 16 := by simpa using h3
      simp only [List.getElem_drop, bL, List.getElem_map, List.getElem_range]
      exact hmf _ (by omega) (by omega)
  have eP : (k3 fun j => w8 (bL z) (j + 2)) = leN ((List.range 16).map fun j => f (16 + j)) := by
    have h2 := leN_two ((List.range 16).map fun j => f (16 + j)) (by simp)
    rw [← h2, ← eL]
    show leN (((bL z).drop 16).take 8) + leN (((bL z).drop (16 + 8)).take 8) * 2 ^ 64 = _
    rw [← List.drop_drop]
    rw [List.take_of_length_le (l := ((bL z).drop 16).drop 8) (by simp [bL_len])]
  unfold ptg
  rw [eK, accE_zero, eP]
  unfold tgn
  have : k3 (wd 0) = 0 := by rw [wd_none]; rfl
  rw [this, Nat.zero_add, leN_get _ (fun b hb => by obtain ⟨j, hj, rfl⟩ := List.mem_map.1 hb; exact hf _ (by have := List.mem_range.1 hj; omega)) i (by simpa using hi)]
  simp
/-- The first half is written over with noughts. -/
def half0 (f : Nat → Nat) : Nat → Nat := fun j => if 0 ≤ j ∧ j < 0 + min (zrs 16).length 16 then (zrs 16).getD (j - 0) 0 else f j
theorem half0_lo (f : Nat → Nat) : ∀ j, j < 16 → half0 f j = 0 := fun j hj => by
  unfold half0
  rw [if_pos (by rw [zrs_len]; omega)]
  simp [zrs, List.getD_eq_getElem?_getD, hj]
theorem half0_hi (f : Nat → Nat) : ∀ j, 16 ≤ j → j < 32 → half0 f j = f j := fun j h1 h2 => by
  unfold half0
  rw [if_neg (by rw [zrs_len]; omega)]
theorem half0_lt {f : Nat → Nat} (hf : ∀ j, j < 32 → f j < 256) : ∀ j, j < 32 → half0 f j < 256 := fun j hj => by
  by_cases h : j < 16
  · rw [half0_lo f j h]; decide
  · rw [half0_hi f j (by omega) hj]; exact hf j hj
theorem ptg_half0 {f : Nat → Nat} (hf : ∀ j, j < 32 → f j < 256) (m : List Nat) : ((List.range 16).map fun j => ptg (half0 f) m (0 + j)) = (List.range 16).map fun j => f (16 + j) :=
  List.map_congr_left fun j hj => by
    rw [Nat.zero_add]
    exact ptg_zero (half0_lo f) (half0_hi f) hf m (List.mem_range.1 hj)

end Go.Proofs.Ytmnmhmpklknleaa
