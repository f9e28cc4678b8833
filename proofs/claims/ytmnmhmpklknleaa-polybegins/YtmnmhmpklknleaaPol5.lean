/-
  The one-time sum of bytes that came in pieces: its state is that of all of them. Plain arithmetic.
-/
import Derived.Test.YtmnmhmpklknleaaPol4
namespace Go.Proofs.Ytmnmhmpklknleaa
open Go Go.RowKit

def rem16 (m : List Nat) : List Nat := m.drop (16 * (m.length / 16))
theorem rem16_len (m : List Nat) : (rem16 m).length = m.length % 16 := by simp [rem16]; omega
theorem rem16_lt {m : List Nat} (h : ∀ b ∈ m, b < 256) : ∀ b ∈ rem16 m, b < 256 := fun b hb => h b (List.mem_of_mem_drop hb)
def acc0 (R : Nat) (m : List Nat) : Nat := accs R 0 m (m.length / 16)
def heldF (m : List Nat) (i : Nat) : Nat := (rem16 m).getD i 0
theorem wd_none : wd 0 = fun _ => 0 := by funext j; simp [wd]
theorem pst_lt (R A : Nat) (l : List Nat) : pst R A l < QQ := Nat.mod_lt _ QQ_pos
theorem accs_ltQ {R A : Nat} {S : List Nat} (hA : A < QQ) : ∀ k, accs R A S k < QQ
  | 0 => hA
  | _ + 1 => pst_lt _ _ _
theorem acc0_lt (R : Nat) (m : List Nat) : acc0 R m < QQ := accs_ltQ QQ_pos _
theorem accs_pre (R A : Nat) (m l : List Nat) : ∀ k, 16 * k ≤ m.length → accs R A (m ++ l) k = accs R A m k
  | 0, _ => rfl
  | k + 1, h => by
    rw [accs, accs, accs_pre R A m l k (by omega), List.drop_append_of_le_length (by omega), List.take_append_of_le_length (by simp; omega)]
theorem drop_rem (m l : List Nat) (k : Nat) : (m ++ l).drop (16 * (m.length / 16 + k)) = (rem16 m ++ l).drop (16 * k) := by
  have e : (m ++ l).drop (16 * (m.length / 16)) = rem16 m ++ l := List.drop_append_of_le_length (by omega)
  rw [← e, List.drop_drop, Nat.mul_add]
theorem accs_app (R : Nat) (m l : List Nat) : ∀ k, accs R 0 (m ++ l) (m.length / 16 + k) = accs R (acc0 R m) (rem16 m ++ l) k
  | 0 => accs_pre R 0 m l _ (by omega)
  | k + 1 => by
    show accs R 0 (m ++ l) (m.length / 16 + k + 1) = _
    rw [accs, accs, accs_app R m l k, drop_rem]
theorem sS_held (m l : List Nat) : sS (heldF m) (rem16 m).length l = rem16 m ++ l := by
  unfold sS
  congr 1
  apply List.ext_getElem
  · simp
  · intro j h1 h2
    simp only [List.getElem_map, List.getElem_range]
    unfold heldF
    rw [List.getD_eq_getElem?_getD, List.getElem?_eq_getElem h2]; rfl
theorem part_len (m l : List Nat) : m.length / 16 + (rem16 m ++ l).length / 16 = (m ++ l).length / 16 := by
  rw [List.length_append, List.length_append, rem16_len]; omega
theorem acc0_app (R : Nat) (m l : List Nat) : accs R (acc0 R m) (rem16 m ++ l) ((rem16 m ++ l).length / 16) = acc0 R (m ++ l) := by
  rw [← accs_app, part_len]; rfl
theorem rem16_app (m l : List Nat) : (rem16 m ++ l).drop (16 * ((rem16 m ++ l).length / 16)) = rem16 (m ++ l) := by
  rw [← drop_rem, part_len]; rfl

/-! ### A state that may be -/
theorem leN_get : ∀ (L : List Nat), (∀ b ∈ L, b < 256) → ∀ i (h : i < L.length), leN L / 256 ^ i % 256 = L[i]
  | [], _, i, h => by simp at h
  | b :: L, hb, 0, _ => by
    have := hb b (by simp)
    simp only [leN, Nat.pow_zero, Nat.div_one, List.getElem_cons_zero]; omega
  | b :: L, hb, i + 1, h => by
    have := hb b (by simp)
    rw [Nat.pow_succ, Nat.mul_comm (256 ^ i), ← Nat.div_div_eq_div_mul]
    simp only [leN, List.getElem_cons_succ]
    rw [show (b + 256 * leN L) / 256 = leN L by omega]
    exact leN_get L (fun x hx => hb x (by simp [hx])) i (by simpa using h)
theorem lowl_leN {L : List Nat} (hb : ∀ b ∈ L, b < 256) {k : Nat} (hk : L.length = k) : lowl (leN L) k = L := by
  apply List.ext_getElem
  · simp [lowl, hk]
  · intro j h1 h2
    simp only [lowl, List.getElem_map, List.getElem_range]
    exact leN_get L hb j h2
theorem lw_w8 {L : List Nat} (hb : ∀ b ∈ L, b < 256) (hl : 16 ≤ L.length) : lw (w8 L) = L.take 16 := by
  unfold lw w8
  rw [lowl_leN (take_lt hb _ _) (by simp; omega), lowl_leN (take_lt hb _ _) (by simp; omega)]
  rw [show 8 * 0 = 0 by rfl, List.drop_zero, show 8 * 1 = 8 by rfl, show (16 : Nat) = 8 + 8 by rfl, List.take_add]
theorem msk_msk (f g : Nat → Nat) {j : Nat} (h : g j = msk f j) : msk g j = msk f j := by
  unfold msk at *
  by_cases h1 : j < 16 ∧ j % 4 = 3
  · rw [if_pos h1] at h ⊢
    rw [if_pos h1, h]
    have : (f j &&& 15) % 256 = f j &&& 15 := Nat.mod_eq_of_lt (Nat.lt_of_le_of_lt Nat.and_le_right (by decide))
    rw [this, Nat.and_assoc]; simp [this]
  · rw [if_neg h1] at h ⊢
    rw [if_neg h1]
    by_cases h2 : 4 ≤ j ∧ j < 16 ∧ j % 4 = 0
    · rw [if_pos h2] at h ⊢
      rw [if_pos h2, h]
      have : (f j &&& 252) % 256 = f j &&& 252 := Nat.mod_eq_of_lt (Nat.lt_of_le_of_lt Nat.and_le_right (by decide))
      rw [this, Nat.and_assoc]; simp [this]
    · rw [if_neg h2] at h ⊢
      rw [if_neg h2, h]
theorem okR_begun {f : Nat → Nat} (hf : ∀ j, j < 32 → f j < 256) : allEq 2 (w8 (bL (kq (w8 (bL f))))) (w8 (bL f)) = true := by
  have hb := bL_lt hf
  have hl := bL_len f
  rw [allEq_iff]
  intro j hj
  have hk : ∀ i, i < 16 → kq (w8 (bL f)) i = msk f i := fun i hi => by
    unfold kq
    rw [lw_w8 hb (by omega), List.getD_eq_getElem?_getD, List.getElem?_take, if_pos hi, List.getElem?_eq_getElem (by omega)]
    simp [bL]
  unfold w8
  congr 1
  apply List.ext_getElem
  · simp [bL_len]
  · intro i h1 h2
    have hi : i < 8 := by simp at h1; omega
    simp only [List.getElem_take, List.getElem_drop, bL, List.getElem_map, List.getElem_range]
    exact msk_msk f _ (hk _ (by omega))
theorem ok_make {r : Nat → Nat} {A n : Nat} {h : Nat → Nat} (hr : allEq 2 (w8 (bL (kq r))) r = true) (hA : A < QQ) (hn : n < 16) (hh : ∀ j, n ≤ j → j < 16 → h j = 0) : (okcd r (wd A) n && okh n h 16) = true := by
  have hA3 : A < 2 ^ 130 := Nat.lt_trans hA QQ_lt
  rw [Bool.and_eq_true]
  refine ⟨(ok_all hr (by omega) (by omega) (wd2_lt hA3) ?_).symm, ?_⟩
  · rw [w3_wd hA3, Nat.mod_eq_of_lt hA]
    exact allEq_iff.2 fun _ _ => rfl
  · unfold okh
    rw [List.all_eq_true]
    intro j hj
    have hj := List.mem_range.1 hj
    by_cases hjn : j < n
    · simp [hjn]
    · simp [hh j (by omega) hj]
theorem ok_heldF {r : Nat → Nat} (hr : allEq 2 (w8 (bL (kq r))) r = true) (R : Nat) (m : List Nat) : (okcd r (wd (acc0 R m)) ((rem16 m).length : Nat) && okh ((rem16 m).length : Nat) (heldF m) 16) = true :=
  ok_make hr (acc0_lt R m) (by rw [rem16_len]; omega) fun j h1 _ => by
    unfold heldF
    rw [List.getD_eq_getElem?_getD, List.getElem?_eq_none h1]; rfl
theorem heldF_lt {m : List Nat} (hm : ∀ b ∈ m, b < 256) (j : Nat) : heldF m j < 256 := getD_lt (rem16_lt hm) j
/-- What may be is a number below the prime, and so many bytes. -/
theorem ok_open {r a h : Nat → Nat} {n : Int} (hok : (okcd r a n && okh n h 16) = true) : allEq 2 (w8 (bL (kq r))) r = true ∧ (∃ k : Nat, n = k ∧ k < 16 ∧ ∀ j, k ≤ j → j < 16 → h j = 0) ∧ w3 a < QQ ∧ ∀ j, j < 3 → a j = wd (w3 a) j := by
  rw [Bool.and_eq_true] at hok
  obtain ⟨h1, h2⟩ := hok
  unfold okcd at h1
  simp only [Bool.and_eq_true, decide_eq_true_eq] at h1
  obtain ⟨q0, q1, q2, q3, q4⟩ := h1
  have q4 := allEq_iff.1 q4
  have hQ : w3 a % QQ < QQ := Nat.mod_lt _ QQ_pos
  have e2 : w3 (wd (w3 a % QQ)) = w3 a := by
    generalize w3 a % QQ = X at q4
    unfold w3
    rw [q4 0 (by decide), q4 1 (by decide), q4 2 (by decide)]
  have e : w3 a = w3 a % QQ := e2.symm.trans (w3_wd (Nat.lt_trans hQ QQ_lt))
  refine ⟨q0, ⟨n.toNat, by omega, by omega, fun j hj h16 => ?_⟩, by rw [e]; exact hQ, fun j hj => ?_⟩
  · unfold okh at h2
    rw [List.all_eq_true] at h2
    have := h2 j (List.mem_range.2 h16)
    have hn : ¬ (j : Int) < n := by omega
    simpa [hn] using this
  · rw [← q4 j hj, ← e]

/-! ### The sum of bytes by a key -/
/-- What is known when the bytes m were taken in, by the key f. -/
abbrev cP (f : Nat → Nat) (m : List Nat) : Array Value := cells 24 [pI .u64 2 (w8 (bL f)), pI .u64 2 (fun j => w8 (bL f) (j + 2)), pI .u64 3 (wd (acc0 (k3 (w8 (bL f))) m)), pI .u8 16 (heldF m), pV (.int .i64 ((rem16 m).length : Nat))]
abbrev stP (f : Nat → Nat) (m : List Nat) : Value := .agg (cP f m)
theorem stP_nil (f : Nat → Nat) : PV (w8 (bL f)) (fun j => w8 (bL f) (j + 2)) (fun _ => 0) (fun _ => 0) 0 = stP f [] := by
  have e1 : wd (acc0 (k3 (w8 (bL f))) []) = fun _ => 0 := wd_none
  have e2 : heldF [] = fun _ => 0 := by funext i; simp [heldF, rem16]
  unfold stP cP
  rw [e1, e2]; rfl
def accE (R : Nat) (m : List Nat) : Nat := if (rem16 m).length = 0 then acc0 R m else pst R (acc0 R m) (rem16 m)
/-- The tag of the bytes m by the key f. -/
def ptg (f : Nat → Nat) (m : List Nat) (i : Nat) : Nat := tgn (k3 (wd (accE (k3 (w8 (bL f))) m))) (k3 fun j => w8 (bL f) (j + 2)) i
theorem ptg_lt (f : Nat → Nat) (m : List Nat) (i : Nat) : ptg f m i < 256 := Nat.mod_lt _ (by decide)
theorem held_list (m : List Nat) : (List.range (rem16 m).length).map (heldF m) = rem16 m := by
  have := sS_held m []
  unfold sS at this
  simpa using this

end Go.Proofs.Ytmnmhmpklknleaa
