import Derived.Test.YthljakcegoohlaaGreatDoorKT5
import Derived.Lib.IndexEntry
import Derived.Lib.Join
import Derived.Test.YthljakcegoohlaaGreatDoorRows
import Derived.Shelf.Strings.OnBuilder
import Derived.ProofKit
import Derived.OpenShut
import Derived.LaidMore
import Derived.Lay
import Derived.MakeChecks
set_option maxRecDepth 30000
namespace Go.Proofs.YthljakcegoohlaaGreatDoor
open Go Go.RowKit
abbrev hdN : List Nat := [78, 111, 105, 115, 101, 95]
abbrev tlN : List Nat := [95, 50, 53, 53, 49, 57, 95, 67, 104, 97, 67, 104, 97, 80, 111, 108, 121, 95, 66, 76, 65, 75, 69, 50, 115]
def pskD (z : Int) : Nat := (48 + (z % 256).toNat) % 256
def pmd (ps : List Int) : Nat → List Nat
  | 0 => []
  | i + 1 => pmd ps i ++ ((if 0 < i then [43] else []) ++ [112, 115, 107, pskD (ps.getD i 0)])
def pname (base : List Nat) (ps : List Int) : List Nat := hdN ++ base ++ pmd ps ps.length ++ tlN
theorem pmd_len (ps : List Int) : ∀ i, (pmd ps i).length ≤ 5 * i
  | 0 => Nat.le_refl _
  | i + 1 => by
    have := pmd_len ps i
    rw [pmd]
    by_cases h : 0 < i
    · rw [if_pos h]; simp; omega
    · rw [if_neg h]; simp; omega
theorem pwith_in {n : List Nat} {ps : List Int} (h : (pwith n ps).1 = 0) : ptext n ≠ [] ∧ ps.length ≤ 4 ∧ n.length ≤ 10 := by
  unfold pwith at h
  by_cases h0 : ptext n = []
  · rw [if_pos h0] at h; cases h
  · rw [if_neg h0] at h
    by_cases h1 : 4 < ps.length
    · rw [if_pos h1] at h; cases h
    · refine ⟨h0, by omega, ?_⟩
      rcases ptext_in h0 with rfl | rfl | rfl | rfl | rfl | rfl | rfl <;> decide
abbrev wq (n : List Nat) (ps : List Int) (i : Nat) : List Nat := toks ((pwith n ps).2.getD i [])
abbrev wt (n : List Nat) (ps : List Int) : List (List Nat) := ((pwith n ps).2.drop 2).map toks
end Go.Proofs.YthljakcegoohlaaGreatDoor
namespace Go.Proofs.YthljakcegoohlaaGreatDoor
open Go Go.RowKit
abbrev PSK : List Nat := [112, 115, 107]
abbrev oc (l : List Nat) (i : Nat) : Prop := (l.drop i).take 3 = PSK
def ixp : List Nat → Option Nat
  | [] => none
  | b :: l => if (b :: l).take 3 = PSK then some 0 else (ixp l).map (· + 1)
theorem oc_len {l : List Nat} {i : Nat} (h : oc l i) : i + 3 ≤ l.length := by
  have := congrArg List.length h
  simp at this
  omega
theorem ixp_first : ∀ {l : List Nat} {i : Nat}, oc l i → (∀ j, j < i → ¬ oc l j) → ixp l = some i
  | [], i, h, _ => by have := oc_len h; simp at this
  | b :: l, 0, h, _ => by rw [ixp, if_pos (show (b :: l).take 3 = PSK from h)]
  | b :: l, i + 1, h, hn => by
    rw [ixp, if_neg (show ¬ (b :: l).take 3 = PSK from hn 0 (Nat.succ_pos i)), ixp_first (l := l) (i := i) h (fun j hj => hn (j + 1) (Nat.succ_lt_succ hj))]; rfl
theorem ixp_none : ∀ {l : List Nat}, (∀ j, ¬ oc l j) → ixp l = none
  | [], _ => rfl
  | b :: l, hn => by rw [ixp, if_neg (show ¬ (b :: l).take 3 = PSK from hn 0), ixp_none (l := l) (fun j => hn (j + 1))]; rfl
theorem ixp_drop : ∀ {l : List Nat} {i : Nat}, i ≤ l.length → (∀ j, j < i → ¬ oc l j) → ixp l = (ixp (l.drop i)).map (· + i)
  | l, 0, _, _ => by simp
  | [], i + 1, h, _ => by simp at h
  | b :: l, i + 1, h, hn => by
    rw [ixp, if_neg (show ¬ (b :: l).take 3 = PSK from hn 0 (Nat.succ_pos i)), ixp_drop (l := l) (i := i) (by simpa using h) (fun j hj => hn (j + 1) (Nat.succ_lt_succ hj)), List.drop_succ_cons]
    cases ixp (l.drop i) with
    | none => rfl
    | some k => simp; omega
theorem pre_psk (l : List Nat) (hl : ∀ b ∈ l, b < 256) : (PSK.map UInt8.ofNat).isPrefixOf (l.map UInt8.ofNat) = decide (l.take 3 = PSK) := by
  match l with
  | [] => rfl
  | [a] => simp [List.isPrefixOf]
  | [a, b] => simp [List.isPrefixOf]
  | a :: b :: c :: r =>
    have h1 := hl a (by simp)
    have h2 := hl b (by simp)
    have h3 := hl c (by simp)
    simp only [List.map_cons, List.isPrefixOf, List.map_nil, List.take_succ_cons, List.take_zero]
    rw [u8_eq (by decide) h1, u8_eq (by decide) h2, u8_eq (by decide) h3]
    simp only [Bool.and_true]
    by_cases e1 : a = 112
    · by_cases e2 : b = 115
      · by_cases e3 : c = 107
        · simp [e1, e2, e3]
        · have : ¬ 107 = c := fun h => e3 h.symm
          simp [e3, this]
      · have : ¬ 115 = b := fun h => e2 h.symm
        simp [e2, this]
    · have : ¬ 112 = a := fun h => e1 h.symm
      simp [e1, this]
theorem lib_psk : ∀ {l : List Nat}, (∀ b ∈ l, b < 256) → Value.int .i64 (Lib.index (l.map UInt8.ofNat) (PSK.map UInt8.ofNat)) = ixv (ixp l)
  | [], _ => rfl
  | b :: l, hl => by
    have ih := lib_psk (l := l) (fun x hx => hl x (List.mem_cons_of_mem _ hx))
    have hp : (PSK.map UInt8.ofNat).isPrefixOf (UInt8.ofNat b :: l.map UInt8.ofNat) = decide ((b :: l).take 3 = PSK) := pre_psk (b :: l) hl
    show Value.int .i64 (Lib.index (UInt8.ofNat b :: l.map UInt8.ofNat) (PSK.map UInt8.ofNat)) = _
    rw [Lib.index, hp]
    by_cases e : (b :: l).take 3 = PSK
    · rw [decide_eq_true e, ixp, if_pos e]; rfl
    · rw [decide_eq_false e, ixp, if_neg e]
      cases h : ixp l with
      | none =>
        rw [h] at ih
        have : Lib.index (l.map UInt8.ofNat) (PSK.map UInt8.ofNat) = -1 := by injection ih
        rw [this]; rfl
      | some i =>
        rw [h] at ih
        have : Lib.index (l.map UInt8.ofNat) (PSK.map UInt8.ofNat) = (i : Int) := by injection ih
        rw [this]
        have h1 : (((i : Int)) == -1) = false := by simp
        rw [h1]
        simp [ixv]
def hW (l : List Nat) (k : Nat) : Nat := (l.getD k 0 * 637696617 + l.getD (k + 1) 0 * 16777619 + l.getD (k + 2) 0) % 4294967296
def hpre (l : List Nat) (i : Nat) : Nat := if i = 0 then 0 else if i = 1 then l.getD 0 0 else if i = 2 then (l.getD 0 0 * 16777619 % 4294967296 + l.getD 1 0) % 4294967296 else ((l.getD 0 0 * 16777619 % 4294967296 + l.getD 1 0) % 4294967296 * 16777619 % 4294967296 + l.getD 2 0) % 4294967296
theorem hpre_step {l : List Nat} {i : Nat} (hi : i < 3) (hl : ∀ b ∈ l, b < 256) : (hpre l i * 16777619 % 4294967296 + l.getD i 0) % 4294967296 = hpre l (i + 1) := by
  have h0 := getD_b hl 0
  rcases (by omega : i = 0 ∨ i = 1 ∨ i = 2) with rfl | rfl | rfl
  · rw [hpre, if_pos rfl, hpre, if_neg (by decide), if_pos (by decide), Nat.zero_mul, Nat.zero_mod, Nat.zero_add, Nat.mod_eq_of_lt (show l.getD 0 0 < 4294967296 by omega)]
  · rw [hpre, if_neg (by decide), if_pos rfl, hpre, if_neg (by decide), if_neg (by decide), if_pos (by decide)]
  · rw [hpre, if_neg (by decide), if_neg (by decide), if_pos rfl, hpre, if_neg (by decide), if_neg (by decide), if_neg (by decide)]
theorem mod_step (x p c : Nat) : (x % 4294967296 * p % 4294967296 + c) % 4294967296 = (x * p + c) % 4294967296 := by
  rw [Nat.mod_mul_mod, Nat.mod_add_mod]
theorem hpre_all (l : List Nat) : hpre l 3 = hW l 0 := by
  rw [hpre, if_neg (by decide), if_neg (by decide), if_neg (by decide), hW]
  simp only [Nat.zero_add]
  generalize l.getD 0 0 = a
  generalize l.getD 1 0 = b
  generalize l.getD 2 0 = c
  have h : (a * 16777619 % 4294967296 + b) * 16777619 % 4294967296 = (a * 16777619 + b) * 16777619 % 4294967296 := by rw [Nat.mul_mod, Nat.mod_add_mod, ← Nat.mul_mod]
  rw [mod_step, Nat.add_mod, h, ← Nat.add_mod]
  rw [show (a * 16777619 + b) * 16777619 + c = a * 637696617 + b * 16777619 + c + 4294967296 * (65539 * a) by omega, Nat.add_mul_mod_self_left]
theorem roll_mod (W Z : Nat) : ((W + Z) % 4294967296 + 4294967296 - Z % 4294967296) % 4294967296 = W % 4294967296 := by omega
theorem hW_roll {l : List Nat} {i : Nat} (hi : 3 ≤ i) : ((hW l (i - 3) * 16777619 % 4294967296 + l.getD i 0) % 4294967296 + 4294967296 - 1055306571 * l.getD (i - 3) 0 % 4294967296) % 4294967296 = hW l (i + 1 - 3) := by
  obtain ⟨k, rfl⟩ : ∃ k, i = k + 3 := ⟨i - 3, by omega⟩
  rw [show k + 3 - 3 = k by omega, show k + 3 + 1 - 3 = k + 1 by omega]
  unfold hW
  simp only [show k + 1 + 1 = k + 2 from rfl, show k + 1 + 2 = k + 3 from rfl]
  generalize l.getD k 0 = a
  generalize l.getD (k + 1) 0 = b
  generalize l.getD (k + 2) 0 = c
  generalize l.getD (k + 3) 0 = e
  rw [mod_step, show (a * 637696617 + b * 16777619 + c) * 16777619 + e = b * 637696617 + c * 16777619 + e + 1055306571 * a + 4294967296 * (2491062 * a + 65539 * b) by omega, Nat.add_mul_mod_self_left, roll_mod]
theorem oc_at {l : List Nat} {i : Nat} (h : oc l i) : l.getD i 0 = 112 ∧ l.getD (i + 1) 0 = 115 ∧ l.getD (i + 2) 0 = 107 := by
  have at_ : ∀ j, j < 3 → l.getD (i + j) 0 = PSK.getD j 0 := fun j hj => by
    rw [← h]
    rw [List.getD_eq_getElem?_getD, List.getD_eq_getElem?_getD, List.getElem?_take_of_lt hj, List.getElem?_drop]
  exact ⟨at_ 0 (by decide), at_ 1 (by decide), at_ 2 (by decide)⟩
theorem oc_hash {l : List Nat} {i : Nat} (h : oc l i) : hW l i = 337003364 := by
  obtain ⟨h1, h2, h3⟩ := oc_at h
  unfold hW
  rw [h1, h2, h3]
theorem oc_no {l : List Nat} {i : Nat} (h : l.getD i 0 ≠ 112) : ¬ oc l i := fun e => h (oc_at e).1
theorem oc_skip {l : List Nat} {i o t : Nat} (h0 : l.getD i 0 ≠ 112) (hb : ∀ j, j < i → ¬ oc l j) (ho : ixb ((l.drop (i + 1)).take (t - (i + 1))) 112 = some o) : ∀ j, j < i + o + 1 → ¬ oc l j := by
  have key : ∀ (L : List Nat) (o : Nat), ixb L 112 = some o → ∀ k, k < o → L.getD k 0 ≠ 112 ∧ k < L.length := by
    intro L
    induction L with
    | nil => intro o h; simp [ixb] at h
    | cons b L ih =>
      intro o h k hk
      by_cases e : b = 112
      · rw [ixb, if_pos e] at h; injection h with h; omega
      · rw [ixb, if_neg e] at h
        cases h1 : ixb L 112 with
        | none => rw [h1] at h; simp at h
        | some q =>
          rw [h1] at h
          have : o = q + 1 := by simpa using h.symm
          cases k with
          | zero => exact ⟨by simpa using e, by simp⟩
          | succ k => have := ih q h1 k (by omega); exact ⟨by simpa using this.1, by simp; omega⟩
  intro j hj
  rcases (by omega : j < i ∨ j = i ∨ i < j) with h | rfl | h
  · exact hb j h
  · exact oc_no h0
  · obtain ⟨k, rfl⟩ : ∃ k, j = i + 1 + k := ⟨j - (i + 1), by omega⟩
    obtain ⟨h1, h2⟩ := key _ o ho k (by omega)
    refine oc_no fun e => h1 ?_
    have hk : k < t - (i + 1) := by simp at h2; omega
    rw [List.getD_eq_getElem?_getD, List.getElem?_take_of_lt hk, List.getElem?_drop, ← List.getD_eq_getElem?_getD]; exact e
theorem ixb_at : ∀ {L : List Nat} {c o : Nat}, ixb L c = some o → o < L.length ∧ L.getD o 0 = c
  | [], _, _, h => by simp [ixb] at h
  | b :: L, c, o, h => by
    by_cases e : b = c
    · rw [ixb, if_pos e] at h; injection h with h; subst h; exact ⟨by simp, by simpa using e⟩
    · rw [ixb, if_neg e] at h
      cases h1 : ixb L c with
      | none => rw [h1] at h; simp at h
      | some q =>
        rw [h1] at h
        have : o = q + 1 := by simpa using h.symm
        subst this
        have := ixb_at h1
        exact ⟨by simp; omega, by simpa using this.2⟩
theorem oc_end {l : List Nat} {i t : Nat} (ht : t = l.length - 3 + 1) (h0 : l.getD i 0 ≠ 112) (hb : ∀ j, j < i → ¬ oc l j) (ho : ixb ((l.drop (i + 1)).take (t - (i + 1))) 112 = none) : ∀ j, ¬ oc l j := by
  have key : ∀ (L : List Nat), ixb L 112 = none → ∀ k, k < L.length → L.getD k 0 ≠ 112 := by
    intro L
    induction L with
    | nil => intro _ k hk; simp at hk
    | cons b L ih =>
      intro h k hk
      by_cases e : b = 112
      · rw [ixb, if_pos e] at h; cases h
      · rw [ixb, if_neg e] at h
        cases k with
        | zero => simpa using e
        | succ k => exact by simpa using ih (by cases h1 : ixb L 112 with | none => rfl | some q => rw [h1] at h; simp at h) k (by simpa using hk)
  intro j hoc
  have hl := oc_len hoc
  rcases (by omega : j < i ∨ j = i ∨ i < j) with h | rfl | h
  · exact hb j h hoc
  · exact oc_no h0 hoc
  · obtain ⟨k, rfl⟩ : ∃ k, j = i + 1 + k := ⟨j - (i + 1), by omega⟩
    refine key _ ho k (by simp; omega) ?_
    rw [List.getD_eq_getElem?_getD, List.getElem?_take_of_lt (by omega), List.getElem?_drop, ← List.getD_eq_getElem?_getD]
    exact (oc_at hoc).1
theorem oc_short {l : List Nat} (h : l.length ≤ 3) (hn : PSK ≠ l) : ∀ j, ¬ oc l j := fun j e => by
  have := oc_len e
  obtain rfl : j = 0 := by omega
  have e : l.take 3 = PSK := e
  rw [List.take_of_length_le (by omega)] at e
  exact hn e.symm
theorem oc_psk {l : List Nat} (h : PSK = l) : ixp l = some 0 := by subst h; rfl
theorem skipc (l : List Nat) (i t : Nat) : l.getD i 0 = 112 ∨ (l.getD i 0 ≠ 112 ∧ ixb ((l.drop (i + 1)).take (t - (i + 1))) 112 = none) ∨ ∃ o, l.getD i 0 ≠ 112 ∧ ixb ((l.drop (i + 1)).take (t - (i + 1))) 112 = some o := by
  by_cases h : l.getD i 0 = 112
  · exact .inl h
  · cases e : ixb ((l.drop (i + 1)).take (t - (i + 1))) 112 with
    | none => exact .inr (.inl ⟨h, rfl⟩)
    | some o => exact .inr (.inr ⟨o, h, rfl⟩)
theorem ixp_cases (l : List Nat) : ixp l = none ∨ ∃ r, ixp l = some r := by
  cases ixp l with
  | none => exact .inl rfl
  | some r => exact .inr ⟨r, rfl⟩
theorem ixp_lt : ∀ {l : List Nat} {r : Nat}, ixp l = some r → r < l.length
  | [], r, h => by simp [ixp] at h
  | b :: l, r, h => by
    rw [ixp] at h
    by_cases e : (b :: l).take 3 = PSK
    · rw [if_pos e] at h; injection h with h; subst h; simp
    · rw [if_neg e] at h
      cases h1 : ixp l with
      | none => rw [h1] at h; simp at h
      | some q =>
        rw [h1] at h
        have := ixp_lt h1
        have : r = q + 1 := by simpa using h.symm
        simp; omega
theorem oc_next {l : List Nat} {e : Nat} (h : ∀ j, j < e → ¬ oc l j) (hn : ¬ oc l e) : ∀ j, j < e + 1 → ¬ oc l j := fun j hj => by
  rcases (by omega : j < e ∨ j = e) with h1 | rfl
  · exact h j h1
  · exact hn
theorem and3_true {p q r : Prop} [Decidable p] [Decidable q] [Decidable r] (h : (decide p && decide q && decide r) = true) : p ∧ q ∧ r := by
  rw [Bool.and_eq_true, Bool.and_eq_true, decide_eq_true_iff, decide_eq_true_iff, decide_eq_true_iff] at h
  exact ⟨h.1.1, h.1.2, h.2⟩
theorem and2_true {p q : Prop} [Decidable p] [Decidable q] (h : (decide p && decide q) = true) : p ∧ q := by
  rw [Bool.and_eq_true, decide_eq_true_iff, decide_eq_true_iff] at h
  exact h
end Go.Proofs.YthljakcegoohlaaGreatDoor
namespace Go.Proofs.YthljakcegoohlaaGreatDoor
open Go Go.RowKit
def bad1 (n : List Nat) : Bool := decide ((n.length : Int) < 6) || decide (n.take 6 ≠ hdN) || decide ((n.length : Int) < 31) || decide (n.drop (n.length - 25) ≠ tlN)
def midN (n : List Nat) : List Nat := (n.drop 6).take (n.length - 25 - 6)
def PatIs2 (base : List Nat) (late : Bool) (ps q0 q1 : List Nat) (us : List (List Nat)) (w : Value) (B : Mem) : Prop := ∃ vp, Shows B 1 vp ps.length ((ci ps).map iv) ∧ PatIs base late vp q0 q1 us w B
theorem pat_mono {base : List Nat} {late : Bool} {vp : Value} {q0 q1 : List Nat} {us : List (List Nat)} {w : Value} {B B' : Mem} (h : PatIs base late vp q0 q1 us w B) (hs : ∀ x ∈ B, x ∈ B') : PatIs base late vp q0 q1 us w B' := by
  obtain ⟨va, vb, vt, tvs, h1, h2, h3, h4, h5, h6⟩ := h
  exact ⟨va, vb, vt, tvs, h1, h2.mono hs, h3.mono hs, h4.mono hs, h5, li_mono h6 hs⟩
theorem pat_room2 (base : List Nat) (late : Bool) (ps q0 q1 : List Nat) (us : List (List Nat)) (m : Mem) : ∃ v nw, (∃ w', v = Value.tuple #[w', ii 0] ∧ PatIs2 base late ps q0 q1 us w' nw) ∧ FreshM m nw := by
  obtain ⟨vp, n0, h0, f0⟩ := fresh_vals m ((ci ps).map iv)
  obtain ⟨w, nw, h1, h2⟩ := pat_fresh base late vp q0 q1 us (m ++ n0)
  rw [show ((ci ps).map iv).length = ps.length by simp [ci]] at h0
  exact ⟨_, n0 ++ nw, ⟨w, rfl, vp, h0.mono fun x hx => List.mem_append_left _ hx, pat_mono h1 fun x hx => List.mem_append_right _ hx⟩, fresh_cat f0 h2⟩
end Go.Proofs.YthljakcegoohlaaGreatDoor
namespace Go.Proofs.YthljakcegoohlaaGreatDoor
open Go Go.RowKit
def plcU (m i : Nat) : List Nat := (List.range i).filter (fun n => decide (m / 2 ^ n % 2 = 1))
abbrev plc (t m : Nat) : List Nat := plcU m (t + 1)
theorem plcU_yes {m i : Nat} (h : m / 2 ^ i % 2 = 1) : plcU m (i + 1) = plcU m i ++ [i] := by
  unfold plcU
  rw [List.range_succ, List.filter_append, List.filter_cons, if_pos (decide_eq_true h)]; rfl
theorem plcU_no {m i : Nat} (h : ¬ m / 2 ^ i % 2 = 1) : plcU m (i + 1) = plcU m i := by
  unfold plcU
  rw [List.range_succ, List.filter_append, List.filter_cons, if_neg (by simpa using h)]; simp
theorem plcU_len (m i : Nat) : (plcU m i).length ≤ i := by
  unfold plcU
  exact Nat.le_trans (List.length_filter_le _ _) (by simp)
theorem plc_len (t m : Nat) : (plc t m).length ≤ t + 1 := plcU_len m (t + 1)
abbrev nm6 : List (List Nat) := [nNN, nNK, nXX, nIK, nXK, nKK]
def nmK (k : Nat) : List Nat := nm6.getD k []
def tnK (k : Nat) : Nat := (wt (nmK k) []).length
def psK (k m : Nat) : List Nat := plc (tnK k) m
theorem psK_len (k m : Nat) : (psK k m).length ≤ tnK k + 1 := plc_len _ _
theorem base_ok : ∀ k, k < 6 → (pwith (nmK k) []).1 = 0 ∧ 2 ≤ tnK k ∧ tnK k ≤ 3 ∧ ∀ b ∈ nmK k, b < 256 := by decide +kernel
theorem with_all : ∀ k, k < 6 → ∀ m, m < 16 → (pwith (nmK k) (ci (psK k m))).1 = 0 := by decide +kernel
theorem nm6_at {k : Nat} (h : k < 6) : ((nm6.map sv).toArray : Array Value)[k]? = some (sv (nmK k)) := by
  rw [List.getElem?_toArray]; exact texts_at h
section
variable {P : Program} {G : Mem} {R : Reg} {M : Mm}
theorem seen_sub {A : Mem} (h : ∀ x ∈ A, x ∈ G) : SeenE G R M A := fun z hz => .inl (h z hz)
end
theorem pat_room3 (base : List Nat) (late : Bool) (ps q0 q1 : List Nat) (us : List (List Nat)) (u : Value) (m : Mem) : ∃ v nw, (∃ w', v = Value.tuple #[w', u] ∧ PatIs2 base late ps q0 q1 us w' nw) ∧ FreshM m nw := by
  obtain ⟨v, nw, ⟨w, _, h⟩, hf⟩ := pat_room2 base late ps q0 q1 us m
  exact ⟨_, nw, ⟨w, rfl, h⟩, hf⟩
end Go.Proofs.YthljakcegoohlaaGreatDoor
namespace Go.Proofs.YthljakcegoohlaaGreatDoor
open Go Go.RowKit
end Go.Proofs.YthljakcegoohlaaGreatDoor
namespace Go.Proofs.YthljakcegoohlaaGreatDoor
open Go Go.RowKit
def pck (t : Nat) (last : Int) : List Int → Nat
  | [] => 0
  | n :: r => if n < 0 ∨ (t : Int) < n then 6 else if n ≤ last then 3 else pck t n r
theorem pfold_pck : ∀ (ps : List Int) (L : List (List Nat)) (last : Int), (pfold L last ps).1 = pck (L.length - 2) last ps
  | [], _, _ => rfl
  | n :: r, L, last => by
    rw [pfold, pck]
    by_cases h : n < 0 ∨ ((L.length - 2 : Nat) : Int) < n
    · rw [if_pos h, if_pos h]
    · rw [if_neg h, if_neg h]
      by_cases h2 : n ≤ last
      · rw [if_pos h2, if_pos h2]
      · rw [if_neg h2, if_neg h2, pfold_pck r (insT L n) n, insT_len]
def pchk (t : Nat) (ps : List Int) : Nat := if 4 < ps.length then 1 else pck t (-1) ps
theorem pwith_pchk {n : List Nat} {ps : List Int} (h : ptext n ≠ []) : (pwith n ps).1 = pchk ((pbase n).length - 2) ps := by
  rw [pwith, if_neg h, pchk]
  by_cases h4 : 4 < ps.length
  · rw [if_pos h4, if_pos h4]
  · rw [if_neg h4, if_neg h4, pfold_pck]
theorem pck_bound : ∀ {ps : List Int} {t : Nat} {last : Int}, pck t last ps = 0 → ∀ n ∈ ps, 0 ≤ n ∧ n ≤ (t : Int)
  | [], _, _, _, n, hn => by simp at hn
  | m :: r, t, last, h, n, hn => by
    rw [pck] at h
    by_cases h1 : m < 0 ∨ (t : Int) < m
    · rw [if_pos h1] at h; cases h
    · rw [if_neg h1] at h
      by_cases h2 : m ≤ last
      · rw [if_pos h2] at h; cases h
      · rw [if_neg h2] at h
        rcases List.mem_cons.1 hn with rfl | hn
        · omega
        · exact pck_bound h n hn
theorem pchk_bound {ps : List Int} {t : Nat} (h : pchk t ps = 0) : ps.length ≤ 4 ∧ ∀ i, i < ps.length → 0 ≤ ps.getD i 0 ∧ ps.getD i 0 ≤ (t : Int) := by
  rw [pchk] at h
  by_cases h4 : 4 < ps.length
  · rw [if_pos h4] at h; cases h
  · rw [if_neg h4] at h
    refine ⟨by omega, fun i hi => pck_bound h _ ?_⟩
    rw [List.getD_eq_getElem?_getD, List.getElem?_eq_getElem hi]; exact List.getElem_mem hi
theorem pck_range {t : Nat} {last : Int} {ps : List Int} {i : Nat} (h : i < ps.length) (hx : ps.getD i 0 < 0 ∨ (t : Int) < ps.getD i 0) : pck t last (ps.drop i) = 6 := by
  rw [drop_int h, pck, if_pos hx]
theorem pck_form {t : Nat} {last : Int} {ps : List Int} {i : Nat} (h : i < ps.length) (hx : ¬ (ps.getD i 0 < 0 ∨ (t : Int) < ps.getD i 0)) (hl : ps.getD i 0 ≤ last) : pck t last (ps.drop i) = 3 := by
  rw [drop_int h, pck, if_neg hx, if_pos hl]
theorem pck_step {t : Nat} {last : Int} {ps : List Int} {i : Nat} (h : i < ps.length) (hx : ¬ (ps.getD i 0 < 0 ∨ (t : Int) < ps.getD i 0)) (hl : ¬ ps.getD i 0 ≤ last) : pck t last (ps.drop i) = pck t (ps.getD i 0) (ps.drop (i + 1)) := by
  rw [drop_int h, pck, if_neg hx, if_neg hl]
theorem pck_end {t : Nat} {last : Int} {ps : List Int} {i : Nat} (h : i = ps.length) : pck t last (ps.drop i) = 0 := by
  rw [h, List.drop_length, pck]
def lastP (ps : List Int) (i : Nat) : Int := if i = 0 then -1 else ps.getD (i - 1) 0
theorem last_yes {ps : List Int} {i : Nat} (h : (decide ((0 : Int) < (i : Int)) && decide (ps.getD i 0 ≤ ps.getD (i - 1) 0)) = true) : ps.getD i 0 ≤ lastP ps i := by
  rw [Bool.and_eq_true, decide_eq_true_eq, decide_eq_true_eq] at h
  rw [lastP, if_neg (by omega)]; exact h.2
theorem last_no {ps : List Int} {i t : Nat} (hx : ¬ (ps.getD i 0 < 0 ∨ (t : Int) < ps.getD i 0)) (h : (decide ((0 : Int) < (i : Int)) && decide (ps.getD i 0 ≤ ps.getD (i - 1) 0)) = false) : ¬ ps.getD i 0 ≤ lastP ps i := by
  by_cases e : i = 0
  · rw [lastP, if_pos e]; omega
  · rw [lastP, if_neg e]
    rw [decide_eq_true (by omega), Bool.true_and, decide_eq_false_iff_not] at h
    exact h
def insU (us : List (List Nat)) (n : Int) : List (List Nat) := if n = 0 then us.set 0 (7 :: us.getD 0 []) else us.set (n.toNat - 1) (us.getD (n.toNat - 1) [] ++ [7])
theorem insU_len (us : List (List Nat)) (n : Int) : (insU us n).length = us.length := by unfold insU; split <;> simp
theorem insU_zero {us : List (List Nat)} {n : Int} (h : n = 0) : insU us n = us.set 0 (7 :: us.getD 0 []) := if_pos h
theorem insU_more {us : List (List Nat)} {n : Int} {k : Nat} (h : n ≠ 0) (hk : n = (k : Int)) : insU us n = us.set (k - 1) (us.getD (k - 1) [] ++ [7]) := by
  subst hk; rw [insU, if_neg h]; rfl
theorem psk_word : ∀ b ∈ ([112, 115, 107] : List Nat), asp b = 0 := by decide
theorem toks_head (w : List Nat) : toks ([112, 115, 107, 32] ++ w) = 7 :: toks w := by
  have h : fldGo [] ([112, 115, 107] ++ (32 :: w)) = [112, 115, 107] :: fldGo [] w := by
    rw [fld_app [112, 115, 107] [] (32 :: w) psk_word]
    simp [fldGo, asp]
  unfold toks fieldsL
  rw [show ([112, 115, 107, 32] ++ w : List Nat) = [112, 115, 107] ++ (32 :: w) from rfl, h, List.flatMap_cons]
  rfl
theorem fld_tail : ∀ (w cur : List Nat), fldGo cur (w ++ [32, 112, 115, 107]) = fldGo cur w ++ [[112, 115, 107]]
  | [], cur => by
    by_cases h : cur = [] <;> simp [fldGo, asp, h]
  | b :: w, cur => by
    rw [List.cons_append, fldGo, fldGo]
    by_cases h : asp b = 0
    · rw [if_pos h, if_pos h]
      exact fld_tail w (cur ++ [b])
    · rw [if_neg h, if_neg h, fld_tail w []]
      split <;> rfl
theorem toks_tail (w : List Nat) : toks (w ++ [32, 112, 115, 107]) = toks w ++ [7] := by
  unfold toks fieldsL
  rw [fld_tail, List.flatMap_append]
  rfl
theorem map_drop_set {L : List (List Nat)} {j : Nat} {w : List Nat} (f : List Nat → List Nat) (h : 2 ≤ j) : ((L.set j w).drop 2).map f = ((L.drop 2).map f).set (j - 2) (f w) := by
  rw [List.drop_set, if_neg (by omega), List.map_set]
theorem drop2_at {L : List (List Nat)} {j : Nat} (f : List Nat → List Nat) (h : j + 2 < L.length) : ((L.drop 2).map f).getD j [] = f (L.getD (j + 2) []) := by
  have h2 : j < (L.drop 2).length := by rw [List.length_drop]; omega
  rw [List.getD_eq_getElem?_getD, List.getElem?_map, List.getElem?_drop, Nat.add_comm 2 j, List.getD_eq_getElem?_getD, List.getElem?_eq_getElem h]
  rfl
theorem insT_insU {L : List (List Nat)} {n : Int} (h3 : 3 ≤ L.length) (h0 : 0 ≤ n) (hn : n ≤ ((L.length - 2 : Nat) : Int)) :
    ((insT L n).drop 2).map toks = insU ((L.drop 2).map toks) n ∧ (insT L n).getD 0 [] = L.getD 0 [] ∧ (insT L n).getD 1 [] = L.getD 1 [] := by
  have other : ∀ {j k : Nat} {w : List Nat}, j ≠ k → (L.set j w).getD k [] = L.getD k [] := fun {j k w} hj => by
    rw [List.getD_eq_getElem?_getD, List.getElem?_set_ne hj, ← List.getD_eq_getElem?_getD]
  by_cases e : n = 0
  · rw [insT_zero e, insU_zero e]
    refine ⟨?_, other (by omega), other (by omega)⟩
    rw [map_drop_set toks (Nat.le_refl 2), toks_head, drop2_at toks (by omega)]
  · obtain ⟨k, rfl⟩ : ∃ k : Nat, n = (k : Int) := ⟨n.toNat, by omega⟩
    rw [insT_more e rfl, insU_more e rfl]
    refine ⟨?_, other (by omega), other (by omega)⟩
    rw [map_drop_set toks (by omega), toks_tail, show 1 + k - 2 = k - 1 by omega, drop2_at toks (by omega), show k - 1 + 2 = 1 + k by omega]
theorem pfold_rows : ∀ (ps : List Int) (L : List (List Nat)) (last : Int), 3 ≤ L.length → (pfold L last ps).1 = 0 →
    ((pfold L last ps).2.drop 2).map toks = ps.foldl insU ((L.drop 2).map toks) ∧ (pfold L last ps).2.getD 0 [] = L.getD 0 [] ∧ (pfold L last ps).2.getD 1 [] = L.getD 1 []
  | [], L, _, _, _ => ⟨rfl, rfl, rfl⟩
  | n :: r, L, last, h3, h => by
    rw [pfold] at h ⊢
    by_cases h1 : n < 0 ∨ ((L.length - 2 : Nat) : Int) < n
    · rw [if_pos h1] at h; cases h
    · rw [if_neg h1] at h ⊢
      by_cases h2 : n ≤ last
      · rw [if_pos h2] at h; cases h
      · rw [if_neg h2] at h ⊢
        obtain ⟨a1, a2, a3⟩ := insT_insU (L := L) (n := n) h3 (by omega) (by omega)
        obtain ⟨b1, b2, b3⟩ := pfold_rows r (insT L n) n (by rw [insT_len]; exact h3) h
        rw [List.foldl_cons, b1, b2, b3, a1, a2, a3]
        exact ⟨rfl, rfl, rfl⟩
def bU (n : List Nat) : List (List Nat) := ((pbase n).drop 2).map toks
def bQ (n : List Nat) (i : Nat) : List Nat := toks ((pbase n).getD i [])
theorem with_rows {n : List Nat} {ps : List Int} (h : (pwith n ps).1 = 0) : wt n ps = ps.foldl insU (bU n) ∧ wq n ps 0 = bQ n 0 ∧ wq n ps 1 = bQ n 1 := by
  obtain ⟨h0, h4, _⟩ := pwith_in h
  obtain ⟨hb1, _⟩ := pbase_ok h0
  have e : pwith n ps = pfold (pbase n) (-1) ps := by rw [pwith, if_neg h0, if_neg (by omega)]
  rw [e] at h
  obtain ⟨a1, a2, a3⟩ := pfold_rows ps (pbase n) (-1) (by omega) h
  refine ⟨by unfold wt bU; rw [e]; exact a1, by unfold wq bQ; rw [e, a2], by unfold wq bQ; rw [e, a3]⟩
theorem bU_len {n : List Nat} (h : ptext n ≠ []) : (bU n).length = (pbase n).length - 2 ∧ 2 ≤ (bU n).length ∧ (bU n).length ≤ 3 ∧ ∀ q ∈ bU n, q.length ≤ 4 := by
  rcases ptext_in h with rfl | rfl | rfl | rfl | rfl | rfl | rfl <;> decide +kernel
theorem foldU_len (ps : List Int) : ∀ us : List (List Nat), (ps.foldl insU us).length = us.length := by
  induction ps with
  | nil => intro us; rfl
  | cons n r ih => intro us; rw [List.foldl_cons, ih, insU_len]
theorem fold_step {us : List (List Nat)} {ps : List Int} {i : Nat} (h : i < ps.length) : (ps.take (i + 1)).foldl insU us = insU ((ps.take i).foldl insU us) (ps.getD i 0) := by
  rw [List.take_add_one, List.getElem?_eq_getElem h, List.foldl_append, List.getD_eq_getElem?_getD, List.getElem?_eq_getElem h]; rfl
theorem insU_row {us : List (List Nat)} {n : Int} {k : Nat} (h : ∀ q ∈ us, q.length ≤ k) : ∀ q ∈ insU us n, q.length ≤ k + 1 := by
  have at_ : ∀ j, (us.getD j []).length ≤ k := fun j => by
    by_cases hj : j < us.length
    · rw [List.getD_eq_getElem?_getD, List.getElem?_eq_getElem hj]; exact h _ (List.getElem_mem hj)
    · rw [List.getD_eq_getElem?_getD, List.getElem?_eq_none (by omega)]; exact Nat.zero_le _
  intro q hq
  unfold insU at hq
  split at hq
  · rcases List.mem_or_eq_of_mem_set hq with h1 | rfl
    · have := h q h1; omega
    · have := at_ 0; simp only [List.length_cons]; omega
  · rcases List.mem_or_eq_of_mem_set hq with h1 | rfl
    · have := h q h1; omega
    · have := at_ (n.toNat - 1); simp only [List.length_append, List.length_cons, List.length_nil]; omega
end Go.Proofs.YthljakcegoohlaaGreatDoor
namespace Go.Proofs.YthljakcegoohlaaGreatDoor
open Go Go.RowKit
def hasP (l p : List Nat) : Bool := decide ((p.length : Int) ≤ l.length) && decide (l.take p.length = p)
def cutP (l p : List Nat) : List Nat := if hasP l p = true then l.drop p.length else l
def hasZ (l p : List Nat) : Bool := decide ((p.length : Int) ≤ l.length) && decide (l.drop (l.length - p.length) = p)
def cutZ (l p : List Nat) : List Nat := if hasZ l p = true then l.take (l.length - p.length) else l
theorem hasP_len {l p : List Nat} (h : hasP l p = true) : p.length ≤ l.length ∧ l.take p.length = p := by
  simp only [hasP, Bool.and_eq_true, decide_eq_true_eq] at h
  exact ⟨by omega, h.2⟩
theorem hasZ_len {l p : List Nat} (h : hasZ l p = true) : p.length ≤ l.length ∧ l.drop (l.length - p.length) = p := by
  simp only [hasZ, Bool.and_eq_true, decide_eq_true_eq] at h
  exact ⟨by omega, h.2⟩
theorem cutP_len (l p : List Nat) : (cutP l p).length ≤ l.length := by unfold cutP; split <;> simp
theorem cutP_mem {l p : List Nat} {b : Nat} (h : b ∈ cutP l p) : b ∈ l := by
  unfold cutP at h
  split at h
  · exact List.mem_of_mem_drop h
  · exact h
theorem bad1_cut (n : List Nat) : bad1 n = (!(hasP n hdN) || !(hasZ (cutP n hdN) tlN)) := by
  have e6 : hdN.length = 6 := rfl
  have e25 : tlN.length = 25 := rfl
  cases h : hasP n hdN with
  | false =>
    simp only [hasP, Bool.and_eq_false_iff, decide_eq_false_iff_not, e6] at h
    rcases h with h | h
    · have : decide ((n.length : Int) < 6) = true := decide_eq_true (by omega)
      rw [bad1, this]; simp
    · have : decide (n.take 6 ≠ hdN) = true := decide_eq_true h
      rw [bad1, this]; simp
  | true =>
    obtain ⟨h1, h2⟩ := hasP_len h
    rw [e6] at h1 h2
    have c : cutP n hdN = n.drop 6 := by rw [cutP, if_pos h]; rfl
    have q1 : decide ((n.length : Int) < 6) = false := decide_eq_false (by omega)
    have q2 : decide (n.take 6 ≠ hdN) = false := decide_eq_false (fun x => x h2)
    rw [bad1, q1, q2, c, hasZ, e25]
    have l1 : (n.drop 6).length = n.length - 6 := List.length_drop
    by_cases h31 : n.length < 31
    · have q3 : decide ((n.length : Int) < 31) = true := decide_eq_true (by omega)
      have q4 : decide (((25 : Nat) : Int) ≤ ((n.drop 6).length : Int)) = false := decide_eq_false (by omega)
      rw [q3, q4]; rfl
    · have q3 : decide ((n.length : Int) < 31) = false := decide_eq_false (by omega)
      have q4 : decide (((25 : Nat) : Int) ≤ ((n.drop 6).length : Int)) = true := decide_eq_true (by omega)
      have e : (n.drop 6).drop ((n.drop 6).length - 25) = n.drop (n.length - 25) := by
        rw [List.drop_drop, l1]; congr 1; omega
      rw [q3, q4, e]
      by_cases ht : n.drop (n.length - 25) = tlN
      · rw [decide_eq_true ht, decide_eq_false (fun x => x ht)]; rfl
      · rw [decide_eq_false ht, decide_eq_true ht]; rfl
theorem mid_cut {n : List Nat} (h : bad1 n = false) : cutZ (cutP n hdN) tlN = midN n := by
  rw [bad1_cut] at h
  simp only [Bool.or_eq_false_iff, Bool.not_eq_false'] at h
  rw [cutZ, if_pos h.2, cutP, if_pos h.1, midN, show hdN.length = 6 from rfl, show tlN.length = 25 from rfl, List.length_drop, show n.length - 6 - 25 = n.length - 25 - 6 by omega]
def plBad (w : List Nat) : Bool := !(hasP w PSK) || decide (((cutP w PSK).length : Int) ≠ 1) || decide (((cutP w PSK).getD 0 0 : Int) < 48) || decide ((57 : Int) < ((cutP w PSK).getD 0 0 : Int))
def plD (w : List Nat) : Nat := (cutP w PSK).getD 0 0 - 48
def plAll : List (List Nat) → Option (List Nat)
  | [] => some []
  | w :: r => if plBad w = true then none else (plAll r).map (plD w :: ·)
def joinL (c : Nat) : List (List Nat) → List Nat
  | [] => []
  | w :: r => w ++ r.flatMap (c :: ·)
def pskW (n : Int) : List Nat := [112, 115, 107, pskD n]
theorem join_pmd (ps : List Int) : ∀ i, i ≤ ps.length → joinL 43 ((ps.take i).map pskW) = pmd ps i
  | 0, _ => by simp [joinL, pmd]
  | i + 1, h => by
    rw [pmd, ← join_pmd ps i (by omega)]
    have e : (ps.take (i + 1)).map pskW = (ps.take i).map pskW ++ [pskW (ps.getD i 0)] := by
      rw [List.take_add_one, List.getElem?_eq_getElem (by omega), List.map_append, List.getD_eq_getElem?_getD, List.getElem?_eq_getElem (by omega)]; rfl
    rw [e]
    cases i with
    | zero => simp [joinL, pskW]
    | succ i =>
      rw [if_pos (by omega)]
      cases hw : (ps.take (i + 1)).map pskW with
      | nil =>
        have := congrArg List.length hw
        rw [List.length_map, List.length_take, List.length_nil] at this
        omega
      | cons w r => simp [joinL, List.append_assoc, pskW]
theorem join_all (ps : List Int) : joinL 43 (ps.map pskW) = pmd ps ps.length := by
  rw [← join_pmd ps ps.length (Nat.le_refl _), List.take_length]
theorem psk_next {ps : List Int} {i : Nat} (h : i < ps.length) : (ps.take (i + 1)).map pskW = (ps.take i).map pskW ++ [pskW (ps.getD i 0)] := by
  rw [List.take_add_one, List.getElem?_eq_getElem h, List.map_append, List.getD_eq_getElem?_getD, List.getElem?_eq_getElem h]; rfl
theorem dig_at {z : Nat} (h : z ≤ 9) : (([48, 49, 50, 51, 52, 53, 54, 55, 56, 57, 97, 98, 99, 100, 101, 102, 103, 104, 105, 106, 107, 108, 109, 110, 111, 112, 113, 114, 115, 116, 117, 118, 119, 120, 121, 122] : List Nat).drop z).take (z + 1 - z) = [48 + z] := by
  have : z = 0 ∨ z = 1 ∨ z = 2 ∨ z = 3 ∨ z = 4 ∨ z = 5 ∨ z = 6 ∨ z = 7 ∨ z = 8 ∨ z = 9 := by omega
  rcases this with rfl | rfl | rfl | rfl | rfl | rfl | rfl | rfl | rfl | rfl <;> rfl
theorem joinL_lib : ∀ ws : List (List Nat), Lib.join (ws.map fun w => w.map UInt8.ofNat) [43] = (joinL 43 ws).map UInt8.ofNat
  | [] => rfl
  | w :: r => by
    rw [List.map_cons, Lib.join_cons, joinL, List.map_append]
    congr 1
    induction r with
    | nil => rfl
    | cons x r ih =>
      rw [Lib.joinTail] at ih ⊢
      rw [List.map_cons, List.map_cons, List.flatten_cons, ih, List.flatMap_cons, List.map_append, List.map_cons]
      rfl
theorem pskD_small {n : Int} (h0 : 0 ≤ n) (h9 : n ≤ 9) : pskD n = 48 + n.toNat := by
  unfold pskD; omega
end Go.Proofs.YthljakcegoohlaaGreatDoor
namespace Go.Proofs.YthljakcegoohlaaGreatDoor
open Go Go.RowKit
theorem Fx.wide {P : Program} {G G' l0 : Mem} {f : FuncId} {args : Array Value} {S : Value → Mem → Mem → Prop} (h : Fx P G l0 f args S) (hG : ∀ x ∈ G, x ∈ G') : Fx P G' l0 f args S := fun w hw hi hn hd => h w (fun x hx => hw x (hG x hx)) hi hn fun x hx => hd x (hG x hx)
abbrev iis (q : List Nat) : List Value := q.map fun x : Nat => ii x
theorem iis_one (q : List Nat) : ∀ u ∈ iis q, u.oneCell' = true := fun u hu => by
  obtain ⟨n, _, rfl⟩ := List.mem_map.1 hu; rfl
abbrev slv (r n : Nat) : Value := .slice (some ⟨r, 0, none⟩) n n
theorem own_lit (ti : TypeId) (r : Nat) (q : List Nat) (h : q.length ≤ 100) : OwnS ti 1 (slv r q.length) q.length (iis q) (some (⟨r, (iis q).toArray, ti⟩ : Blk)).toList :=
  .inr ⟨r, q.length, (iis q).toArray, rfl, rfl, Nat.le_refl _, by simp only [maxLen]; omega, by simp, by simp, by rw [Nat.mul_one]; exact List.take_of_length_le (by simp)⟩
def ox (o0 o1 o2 : Option Blk) (i : Nat) : Option Blk := if i = 0 then o0 else if i = 1 then o1 else if i = 2 then o2 else none
def RowsIs (ti : TypeId) (TF : Nat → Value) (us : List (List Nat)) (o0 o1 o2 : Option Blk) : Prop := ∀ i, i < us.length → OwnS ti 1 (TF i) (us.getD i []).length (iis (us.getD i [])) (ox o0 o1 o2 i).toList
def BaseIs (ti tr : TypeId) (l : List Nat) (late : Bool) (q0 q1 : List Nat) (us : List (List Nat)) (v : Value) (os : List (Option Blk)) : Prop :=
  ∃ va vb TF oa ob o0 o1 o2 rT, v = .agg (patC l late nilS va vb (slv rT us.length)) ∧ os = [oa, ob, o0, o1, o2, some ⟨rT, arrv us.length TF, tr⟩] ∧ OwnS ti 1 va q0.length (iis q0) oa.toList ∧ OwnS ti 1 vb q1.length (iis q1) ob.toList ∧ RowsIs ti TF us o0 o1 o2
theorem base_two {ti tr : TypeId} {l : List Nat} {late : Bool} {q0 q1 : List Nat} {va vb : Value} {oa ob : Option Blk} {r0 r1 rT : Nat} (a b : List Nat) (hA : OwnS ti 1 va q0.length (iis q0) oa.toList) (hB : OwnS ti 1 vb q1.length (iis q1) ob.toList) (ha : a.length ≤ 100) (hb : b.length ≤ 100) :
    BaseIs ti tr l late q0 q1 [a, b] (.agg (patC l late nilS va vb (slv rT 2))) [oa, ob, some ⟨r0, (iis a).toArray, ti⟩, some ⟨r1, (iis b).toArray, ti⟩, none, some ⟨rT, #[slv r0 a.length, slv r1 b.length], tr⟩] :=
  ⟨va, vb, fun i => if i = 0 then slv r0 a.length else slv r1 b.length, oa, ob, _, _, none, rT, rfl, rfl, hA, hB, fun i hi => by
    match i, hi with
    | 0, _ => exact own_lit ti r0 a ha
    | 1, _ => exact own_lit ti r1 b hb
    | i + 2, hi => exact absurd hi (by simp)⟩
theorem base_three {ti tr : TypeId} {l : List Nat} {late : Bool} {q0 q1 : List Nat} {va vb : Value} {oa ob : Option Blk} {r0 r1 r2 rT : Nat} (a b c : List Nat) (hA : OwnS ti 1 va q0.length (iis q0) oa.toList) (hB : OwnS ti 1 vb q1.length (iis q1) ob.toList) (ha : a.length ≤ 100) (hb : b.length ≤ 100) (hc : c.length ≤ 100) :
    BaseIs ti tr l late q0 q1 [a, b, c] (.agg (patC l late nilS va vb (slv rT 3))) [oa, ob, some ⟨r0, (iis a).toArray, ti⟩, some ⟨r1, (iis b).toArray, ti⟩, some ⟨r2, (iis c).toArray, ti⟩, some ⟨rT, #[slv r0 a.length, slv r1 b.length, slv r2 c.length], tr⟩] :=
  ⟨va, vb, fun i => if i = 0 then slv r0 a.length else if i = 1 then slv r1 b.length else slv r2 c.length, oa, ob, _, _, _, rT, rfl, rfl, hA, hB, fun i hi => by
    match i, hi with
    | 0, _ => exact own_lit ti r0 a ha
    | 1, _ => exact own_lit ti r1 b hb
    | 2, _ => exact own_lit ti r2 c hc
    | i + 3, hi => exact absurd hi (by simp)⟩
theorem tab_NN : bQ nNN 0 = [] ∧ bQ nNN 1 = [] ∧ bU nNN = [[1], [1, 3]] := by decide +kernel
theorem tab_NK : bQ nNK 0 = [] ∧ bQ nNK 1 = [2] ∧ bU nNK = [[1, 4], [1, 3]] := by decide +kernel
theorem tab_XX : bQ nXX 0 = [] ∧ bQ nXX 1 = [] ∧ bU nXX = [[1], [1, 3, 2, 4], [2, 5]] := by decide +kernel
theorem tab_IK : bQ nIK 0 = [] ∧ bQ nIK 1 = [2] ∧ bU nIK = [[1, 4, 2, 6], [1, 3, 5]] := by decide +kernel
theorem tab_XK : bQ nXK 0 = [] ∧ bQ nXK 1 = [2] ∧ bU nXK = [[1, 4], [1, 3], [2, 5]] := by decide +kernel
theorem tab_KK : bQ nKK 0 = [2] ∧ bQ nKK 1 = [2] ∧ bU nKK = [[1, 4, 6], [1, 3, 5]] := by decide +kernel
theorem tab_XF : bQ nXF 0 = [1] ∧ bQ nXF 1 = [] ∧ bU nXF = [[1, 3, 2, 4], [2, 5]] := by decide +kernel
theorem ptext_no {n : List Nat} (h0 : n ≠ nNN) (h1 : n ≠ nNK) (h2 : n ≠ nXX) (h3 : n ≠ nIK) (h4 : n ≠ nXK) (h5 : n ≠ nKK) (h6 : n ≠ nXF) : ptext n = [] := by
  cases h : ptext n with
  | nil => rfl
  | cons a b =>
    rcases ptext_in (n := n) (by rw [h]; simp) with e | e | e | e | e | e | e
    · exact absurd e h0
    · exact absurd e h1
    · exact absurd e h2
    · exact absurd e h3
    · exact absurd e h4
    · exact absurd e h5
    · exact absurd e h6
theorem bQ_len {n : List Nat} (h : ptext n ≠ []) : (bQ n 0).length ≤ 1 ∧ (bQ n 1).length ≤ 1 := by
  rcases ptext_in h with rfl | rfl | rfl | rfl | rfl | rfl | rfl
  · rw [tab_NN.1, tab_NN.2.1]; decide
  · rw [tab_NK.1, tab_NK.2.1]; decide
  · rw [tab_XX.1, tab_XX.2.1]; decide
  · rw [tab_IK.1, tab_IK.2.1]; decide
  · rw [tab_XK.1, tab_XK.2.1]; decide
  · rw [tab_KK.1, tab_KK.2.1]; decide
  · rw [tab_XF.1, tab_XF.2.1]; decide
theorem own_fresh (m : Mem) (ti : TypeId) (q : List Nat) (h : q.length ≤ 1000) : ∃ v oz, OwnS ti 1 v q.length (iis q) (Option.toList oz) ∧ FreshM m (Option.toList oz) := by
  obtain ⟨r, hr⟩ := fresh_of m
  refine ⟨slv r q.length, some ⟨r, (iis q).toArray, ti⟩, .inr ⟨r, q.length, (iis q).toArray, rfl, rfl, Nat.le_refl _, by simp only [maxLen]; omega, by simp, by simp, by rw [Nat.mul_one]; exact List.take_of_length_le (by simp)⟩, by simp, fun x hx y hy => ?_⟩
  simp at hx; subst hx; exact hr y hy
theorem owns_fresh (ti : TypeId) : ∀ (qs : List (List Nat)) (m : Mem), (∀ q ∈ qs, q.length ≤ 1000) → ∃ (vs : List Value) (os : List (Option Blk)), vs.length = qs.length ∧ os.length = qs.length ∧ (∀ i, i < qs.length → OwnS ti 1 (vs.getD i undef) (qs.getD i []).length (iis (qs.getD i [])) (os.getD i none).toList) ∧ FreshM m (flatO os)
  | [], m, _ => ⟨[], [], rfl, rfl, fun i hi => absurd hi (by simp), fresh_nil m⟩
  | q :: qs, m, h => by
    obtain ⟨v, oz, h1, h2⟩ := own_fresh m ti q (h q List.mem_cons_self)
    obtain ⟨vs, os, h3, h4, h5, h6⟩ := owns_fresh ti qs (m ++ oz.toList) (fun x hx => h x (List.mem_cons_of_mem _ hx))
    refine ⟨v :: vs, oz :: os, by simp [h3], by simp [h4], fun i hi => ?_, by rw [flatO]; exact fresh_cat h2 h6⟩
    match i with
    | 0 => exact h1
    | i + 1 => exact h5 i (by simpa using hi)
theorem base_room (ti tr : TypeId) (l : List Nat) (late : Bool) (q0 q1 : List Nat) (us : List (List Nat)) (u : Value) (h0 : q0.length ≤ 100) (h1 : q1.length ≤ 100) (hu : ∀ q ∈ us, q.length ≤ 100) (hl : us.length = 2 ∨ us.length = 3) (m : Mem) : ∃ v os, (∃ v', v = Value.tuple #[v', u] ∧ BaseIs ti tr l late q0 q1 us v' os) ∧ FreshM m (flatO os) := by
  obtain ⟨vs, os, g1, g2, g3, g4⟩ := owns_fresh ti (q0 :: q1 :: us) m (fun q hq => by
    rcases List.mem_cons.1 hq with rfl | hq
    · omega
    rcases List.mem_cons.1 hq with rfl | hq
    · omega
    · have := hu q hq; omega)
  obtain ⟨rT, hrT⟩ := fresh_of (m ++ flatO os)
  have fT : ∀ c : Array Value, FreshM (m ++ flatO os) [(⟨rT, c, tr⟩ : Blk)] := fun c => ⟨by simp, fun x hx y hy => by simp at hx; subst hx; exact hrT y hy⟩
  have hA := g3 0 (by simp)
  have hB := g3 1 (by simp)
  rcases hl with hl | hl
  · match us, hl, os, g2 with
    | [a, b], _, [oa, ob, o0, o1], _ =>
      refine ⟨_, [oa, ob, o0, o1, none, some ⟨rT, arrv 2 (fun i => vs.getD (i + 2) undef), tr⟩], ⟨_, rfl, vs.getD 0 undef, vs.getD 1 undef, fun i => vs.getD (i + 2) undef, oa, ob, o0, o1, none, rT, rfl, rfl, hA, hB, fun i hi => ?_⟩, ?_⟩
      · match i, hi with
        | 0, _ => exact g3 2 (by simp)
        | 1, _ => exact g3 3 (by simp)
        | i + 2, hi => exact absurd hi (by simp)
      · have e : flatO [oa, ob, o0, o1, none, some (⟨rT, arrv 2 (fun i => vs.getD (i + 2) undef), tr⟩ : Blk)] = flatO [oa, ob, o0, o1] ++ [(⟨rT, arrv 2 (fun i => vs.getD (i + 2) undef), tr⟩ : Blk)] := by simp [flatO]
        rw [e]; exact fresh_cat g4 (fT _)
  · match us, hl, os, g2 with
    | [a, b, c], _, [oa, ob, o0, o1, o2], _ =>
      refine ⟨_, [oa, ob, o0, o1, o2, some ⟨rT, arrv 3 (fun i => vs.getD (i + 2) undef), tr⟩], ⟨_, rfl, vs.getD 0 undef, vs.getD 1 undef, fun i => vs.getD (i + 2) undef, oa, ob, o0, o1, o2, rT, rfl, rfl, hA, hB, fun i hi => ?_⟩, ?_⟩
      · match i, hi with
        | 0, _ => exact g3 2 (by simp)
        | 1, _ => exact g3 3 (by simp)
        | 2, _ => exact g3 4 (by simp)
        | i + 3, hi => exact absurd hi (by simp)
      · have e : flatO [oa, ob, o0, o1, o2, some (⟨rT, arrv 3 (fun i => vs.getD (i + 2) undef), tr⟩ : Blk)] = flatO [oa, ob, o0, o1, o2] ++ [(⟨rT, arrv 3 (fun i => vs.getD (i + 2) undef), tr⟩ : Blk)] := by simp [flatO]
        rw [e]; exact fresh_cat g4 (fT _)
def insR (n : Nat) (q : List Nat) : List Nat := if n = 0 then 7 :: q else q ++ [7]
theorem insR_len (n : Nat) (q : List Nat) : (insR n q).length = q.length + 1 := by unfold insR; split <;> simp
theorem insU_insR {us : List (List Nat)} {n : Nat} : insU us (n : Int) = us.set (n - 1) (insR n (us.getD (n - 1) [])) := by
  by_cases h : n = 0
  · subst h; exact insU_zero (n := ((0 : Nat) : Int)) rfl
  · rw [insU_more (k := n) (by omega) rfl, insR, if_neg h]
theorem rows_at {us : List (List Nat)} {j i : Nat} {w : List Nat} (hi : i < us.length) : (us.set j w).getD i [] = if i = j then w else us.getD i [] := by
  rw [List.getD_eq_getElem?_getD, List.getElem?_set]
  by_cases e : j = i
  · subst e; rw [if_pos rfl, if_pos hi, if_pos rfl]; rfl
  · rw [if_neg e, if_neg (fun x => e x.symm), ← List.getD_eq_getElem?_getD]
theorem rows_set {ti : TypeId} {TF : Nat → Value} {us : List (List Nat)} {o0 o1 o2 oz : Option Blk} {j : Nat} {w : Value} {q : List Nat} (h : RowsIs ti TF us o0 o1 o2) (hj : j < 3) (ho : OwnS ti 1 w q.length (iis q) oz.toList) : RowsIs ti (updv TF j w) (us.set j q) (if j = 0 then oz else o0) (if j = 1 then oz else o1) (if j = 2 then oz else o2) := fun i hi => by
  rw [List.length_set] at hi
  rw [rows_at hi]
  by_cases e : i = j
  · subst e
    rw [if_pos rfl, updv, if_pos rfl]
    have : ox (if i = 0 then oz else o0) (if i = 1 then oz else o1) (if i = 2 then oz else o2) i = oz := by
      unfold ox
      match i, hj with
      | 0, _ => rfl
      | 1, _ => rfl
      | 2, _ => rfl
    rw [this]; exact ho
  · rw [if_neg e, updv, if_neg e]
    have e2 : ox (if j = 0 then oz else o0) (if j = 1 then oz else o1) (if j = 2 then oz else o2) i = ox o0 o1 o2 i := by
      unfold ox
      by_cases i0 : i = 0
      · rw [if_pos i0, if_pos i0, if_neg (by omega)]
      · rw [if_neg i0, if_neg i0]
        by_cases i1 : i = 1
        · rw [if_pos i1, if_pos i1, if_neg (by omega)]
        · rw [if_neg i1, if_neg i1]
          by_cases i2 : i = 2
          · rw [if_pos i2, if_pos i2, if_neg (by omega)]
          · rw [if_neg i2, if_neg i2]
    rw [e2]; exact h i hi
theorem rowN_le {us : List (List Nat)} {k : Nat} (h : ∀ q ∈ us, q.length ≤ k) (j : Nat) : (us.getD j []).length ≤ k := by
  by_cases hj : j < us.length
  · rw [List.getD_eq_getElem?_getD, List.getElem?_eq_getElem hj]; exact h _ (List.getElem_mem hj)
  · rw [List.getD_eq_getElem?_getD, List.getElem?_eq_none (by omega)]; exact Nat.zero_le _
def PatIsI (base : List Nat) (late : Bool) (ps : List Int) (q0 q1 : List Nat) (us : List (List Nat)) (w : Value) (B : Mem) : Prop := ∃ vp, Shows B 1 vp ps.length (ps.map iv) ∧ PatIs base late vp q0 q1 us w B
theorem pat_roomI (base : List Nat) (late : Bool) (ps : List Int) (q0 q1 : List Nat) (us : List (List Nat)) (m : Mem) : ∃ v nw, (∃ w', v = Value.tuple #[w', ii 0] ∧ PatIsI base late ps q0 q1 us w' nw) ∧ FreshM m nw := by
  obtain ⟨vp, n0, h0, f0⟩ := fresh_vals m (ps.map iv)
  rw [List.length_map] at h0
  obtain ⟨w, n1, h1, f1⟩ := pat_fresh base late vp q0 q1 us (m ++ n0)
  exact ⟨_, n0 ++ n1, ⟨w, rfl, vp, h0.mono fun x hx => List.mem_append_left _ hx, pat_mono h1 fun x hx => List.mem_append_right _ hx⟩, fresh_cat f0 f1⟩
theorem pat_two {base : List Nat} {late : Bool} {ds q0 q1 : List Nat} {us : List (List Nat)} {w : Value} {B : Mem} (h : PatIsI base late (ci ds) q0 q1 us w B) : PatIs2 base late ds q0 q1 us w B := by
  obtain ⟨vp, h1, h2⟩ := h
  exact ⟨vp, by rw [List.length_map] at h1; exact h1, h2⟩
theorem patI_mono {base : List Nat} {late : Bool} {ps : List Int} {q0 q1 : List Nat} {us : List (List Nat)} {w : Value} {B B' : Mem} (h : PatIsI base late ps q0 q1 us w B) (hs : ∀ x ∈ B, x ∈ B') : PatIsI base late ps q0 q1 us w B' := by
  obtain ⟨vp, h1, h2⟩ := h
  exact ⟨vp, h1.mono hs, pat_mono h2 hs⟩
theorem rows_shows {ti : TypeId} {TF : Nat → Value} {us : List (List Nat)} {o0 o1 o2 : Option Blk} {B : Mem} (h : RowsIs ti TF us o0 o1 o2) (hB : ∀ i, ∀ x ∈ (ox o0 o1 o2 i).toList, x ∈ B) : ShowsLI B ((List.range us.length).map TF) (us.map ci) := by
  refine ⟨by simp, fun i hi => ?_⟩
  have hi : i < us.length := by simpa using hi
  have h1 := (h i hi).shows.mono (hB i)
  have e1 : ((List.range us.length).map TF).getD i undef = TF i := by simp [List.getD_eq_getElem?_getD, hi]
  have e2 : (us.map ci).getD i [] = ci (us.getD i []) := by simp [List.getD_eq_getElem?_getD, hi]
  rw [e1, e2, ci_ii, show (ci (us.getD i [])).length = (us.getD i []).length by simp [ci]]
  exact h1
theorem tblk_shows {rT n : Nat} {TF : Nat → Value} {tr : TypeId} {B : Mem} (h : (⟨rT, arrv n TF, tr⟩ : Blk) ∈ B) : Shows B 1 (slv rT n) n ((List.range n).map TF) := by
  have := (shows_new (r := rT) (z := 1) (len := n) (arrv n TF) tr (by rw [arrv_size, Nat.mul_one])).mono (B' := B) fun x hx => by simp at hx; subst hx; exact h
  exact this
theorem with_pat {ti tr : TypeId} {l : List Nat} {late : Bool} {ps : List Int} {q0 q1 : List Nat} {us : List (List Nat)} {vp va vb : Value} {op oa ob o0 o1 o2 : Option Blk} {TF : Nat → Value} {rT n : Nat} {e : TypeId} {B : Mem} (hp : OwnS e 1 vp ps.length (ps.map iv) op.toList) (hA : OwnS ti 1 va q0.length (iis q0) oa.toList) (hB : OwnS ti 1 vb q1.length (iis q1) ob.toList) (hR : RowsIs ti TF us o0 o1 o2) (hn : us.length = n)
    (hs : ∀ o ∈ [op, oa, ob, o0, o1, o2], ∀ x ∈ o.toList, x ∈ B) (hT : (⟨rT, arrv n TF, tr⟩ : Blk) ∈ B) : PatIsI l late ps q0 q1 us (.agg (patC l late vp va vb (slv rT n))) B := by
  subst hn
  refine ⟨vp, hp.shows.mono (hs op (by simp)), va, vb, slv rT us.length, (List.range us.length).map TF, rfl, by rw [ci_ii]; exact hA.shows.mono (hs oa (by simp)), by rw [ci_ii]; exact hB.shows.mono (hs ob (by simp)), tblk_shows hT, by simp, rows_shows hR fun i x hx => ?_⟩
  unfold ox at hx
  split at hx
  · exact hs o0 (by simp) x hx
  split at hx
  · exact hs o1 (by simp) x hx
  split at hx
  · exact hs o2 (by simp) x hx
  · simp at hx
theorem sameQ (b : List Nat) (p : List Int) (la lb : Bool) (q0a q0b q1a q1b : List Int) (ta tb : List (List Int)) : ((la == lb) && decide ([q0a, q1a] = [q0b, q1b]) && decide (ta = tb)) = sameP b b la lb p p q0a q0b q1a q1b ta tb := by
  unfold sameP
  rw [Bool.eq_iff_iff]
  simp only [Bool.and_eq_true, beq_iff_eq, decide_eq_true_eq, List.cons.injEq, and_true, true_and]
  constructor
  · rintro ⟨⟨h1, h2, h3⟩, h4⟩; exact ⟨h1, h2, h3, h4⟩
  · rintro ⟨h1, h2, h3, h4⟩; exact ⟨⟨h1, h2, h3⟩, h4⟩
end Go.Proofs.YthljakcegoohlaaGreatDoor
namespace Go.Proofs.YthljakcegoohlaaGreatDoor
open Go Go.RowKit
theorem in1 {x : Blk} {G : Mem} (h : x ∈ G) : ∀ z ∈ x :: G, z ∈ G := fun z hz => by
  rcases List.mem_cons.1 hz with rfl | hz
  · exact h
  · exact hz
theorem nin_ne : ¬ 9 = 0 := by decide
theorem onn_ne : ¬ 1 = 0 := by decide
theorem eleven_ne : ¬ 11 = 0 := by decide
theorem four_ne : ¬ 4 = 0 := by decide
theorem ten_ne : ¬ 10 = 0 := by decide
abbrev SVy (y : SY) : Value := SV y.1 y.2.1 y.2.2.1 y.2.2.2.1 y.2.2.2.2
abbrev ones (vp v0 v1 vt vk : Value) : Prop := vp.oneCell' = true ∧ v0.oneCell' = true ∧ v1.oneCell' = true ∧ vt.oneCell' = true ∧ vk.oneCell' = true
def letA (t : Nat) : Nat := if t = 3 then 1 else if t = 4 then 1 else 2
def letB (t : Nat) : Nat := if t = 3 then 1 else if t = 4 then 2 else if t = 5 then 1 else 2
def mineT (fi : Bool) (t : Nat) : Nat := if fi then letA t else letB t
def thirT (fi : Bool) (t : Nat) : Nat := if fi then letB t else letA t
theorem mine_last {fi : Bool} {t : Nat} (h3 : 3 ≤ t) (h6 : t ≤ 6) : decide (mineT fi t = 1) = !lastT fi t := by
  have : t = 3 ∨ t = 4 ∨ t = 5 ∨ t = 6 := by omega
  rcases this with rfl | rfl | rfl | rfl <;> cases fi <;> rfl
theorem thir_thr {fi : Bool} {t : Nat} (h3 : 3 ≤ t) (h6 : t ≤ 6) : decide (thirT fi t = 1) = !thrT fi t := by
  have : t = 3 ∨ t = 4 ∨ t = 5 ∨ t = 6 := by omega
  rcases this with rfl | rfl | rfl | rfl <;> cases fi <;> rfl
theorem sec_eq {fi : Bool} {ow : Nat → Nat} {r : RS} {t : Nat} (h3 : 3 ≤ t) (h6 : t ≤ 6) : (if mineT fi t = 1 then r.1 else ow) = secT fi ow r t := by
  have h := mine_last (fi := fi) h3 h6
  unfold secT
  cases hl : lastT fi t with
  | true => rw [hl] at h; rw [if_neg (of_decide_eq_false h), if_pos rfl]
  | false => rw [hl] at h; rw [if_pos (of_decide_eq_true h), if_neg (by decide)]
theorem has_eq {fi : Bool} {r : RS} {t : Nat} (h3 : 3 ≤ t) (h6 : t ≤ 6) : (if mineT fi t = 1 then r.2.1 else true) = hasT fi r t := by
  have h := mine_last (fi := fi) h3 h6
  unfold hasT
  cases hl : lastT fi t with
  | true => rw [hl] at h; rw [if_neg (of_decide_eq_false h), if_pos rfl]
  | false => rw [hl] at h; rw [if_pos (of_decide_eq_true h), if_neg (by decide)]
theorem pub_eq {fi : Bool} {r : RS} {t : Nat} (h3 : 3 ≤ t) (h6 : t ≤ 6) : (if thirT fi t = 1 then r.2.2.2.2.1 else r.2.2.1) = pubT fi r t := by
  have h := thir_thr (fi := fi) h3 h6
  unfold pubT
  cases hl : thrT fi t with
  | true => rw [hl] at h; rw [if_neg (of_decide_eq_false h), if_pos rfl]
  | false => rw [hl] at h; rw [if_pos (of_decide_eq_true h), if_neg (by decide)]
theorem saw_eq {fi : Bool} {r : RS} {t : Nat} (h3 : 3 ≤ t) (h6 : t ≤ 6) : (if thirT fi t = 1 then r.2.2.2.2.2 else r.2.2.2.1) = sawT fi r t := by
  have h := thir_thr (fi := fi) h3 h6
  unfold sawT
  cases hl : thrT fi t with
  | true => rw [hl] at h; rw [if_neg (of_decide_eq_false h), if_pos rfl]
  | false => rw [hl] at h; rw [if_pos (of_decide_eq_true h), if_neg (by decide)]
theorem both_psk_no {fi : Bool} {ow : Nat → Nat} {ps : List (Nat → Nat)} {y : SY} {r : RS} {us : Nat} (h : ps.length ≤ us) : bothT fi ow ps 7 (y, r, us) = (5, (y, r, us)) := (if_pos rfl).trans (if_pos h)
theorem both_psk {fi : Bool} {ow : Nat → Nat} {ps : List (Nat → Nat)} {y : SY} {r : RS} {us : Nat} (h : ¬ ps.length ≤ us) : bothT fi ow ps 7 (y, r, us) = (0, mixP y (ky (pskAt ps us)), r, us + 1) := (if_pos rfl).trans (if_neg h)
theorem both_none {fi : Bool} {ow : Nat → Nat} {ps : List (Nat → Nat)} {t : Nat} {y : SY} {r : RS} {us : Nat} (h7 : t ≠ 7) (h : (hasT fi r t && sawT fi r t) = false) : bothT fi ow ps t (y, r, us) = (5, (y, r, us)) := (if_neg h7).trans (if_pos h)
theorem both_zero {fi : Bool} {ow : Nat → Nat} {ps : List (Nat → Nat)} {t : Nat} {y : SY} {r : RS} {us : Nat} (h7 : t ≠ 7) (h : ¬ (hasT fi r t && sawT fi r t) = false) (hz : mulK (secT fi ow r t) (pubT fi r t) = 0) : bothT fi ow ps t (y, r, us) = (12, (y, r, us)) := (if_neg h7).trans ((if_neg h).trans (if_pos hz))
theorem both_ok {fi : Bool} {ow : Nat → Nat} {ps : List (Nat → Nat)} {t : Nat} {y : SY} {r : RS} {us : Nat} (h7 : t ≠ 7) (h : ¬ (hasT fi r t && sawT fi r t) = false) (hz : ¬ mulK (secT fi ow r t) (pubT fi r t) = 0) : bothT fi ow ps t (y, r, us) = (0, keyP y (ky (bt (mulK (secT fi ow r t) (pubT fi r t)))), r, us) := (if_neg h7).trans ((if_neg h).trans (if_neg hz))
theorem secT_lt {fi : Bool} {ow : Nat → Nat} {r : RS} {t : Nat} (ho : B32 ow) (hr : okR r) : B32 (secT fi ow r t) := by
  unfold secT; split
  · exact ho
  · exact hr.1
theorem pubT_lt {fi : Bool} {r : RS} {t : Nat} (hr : okR r) : B32 (pubT fi r t) := by
  unfold pubT; split
  · exact hr.2.1
  · exact hr.2.2
theorem bt_b (x : Nat) : B32 (bt x) := fun j _ => bt_lt x j
def okP (ps : List (Nat → Nat)) : Prop := (∀ p ∈ ps, B32 p) ∧ ps.length ≤ 9223372036854775807
theorem pskAt_lt {ps : List (Nat → Nat)} (h : okP ps) {i : Nat} (hi : i < ps.length) : B32 (pskAt ps i) := by
  rw [pskAt, List.getD_eq_getElem?_getD, List.getElem?_eq_getElem hi]; exact h.1 _ (List.getElem_mem hi)
theorem not_t {b : Bool} (h : (!b) = true) : b = false := by cases b <;> simp_all
theorem not_f {b : Bool} (h : (!b) = false) : ¬ b = false := by cases b <;> simp_all
theorem Fx.imp {P : Program} {G l0 : Mem} {f : FuncId} {args : Array Value} {S S' : Value → Mem → Mem → Prop} (h : Fx P G l0 f args S) (hi : ∀ v l1 nw, S v l1 nw → S' v l1 nw) : Fx P G l0 f args S' := fun w a b c d =>
  (h w a b c d).mono fun _ _ ⟨v, l1, nw, h1, h2, h3⟩ => ⟨v, l1, nw, h1, hi v l1 nw h2, h3⟩
theorem tokR_e_no {fi : Bool} {ow : Nat → Nat} {ps : List (Nat → Nat)} {s : SS} {b : List Nat} (h : b.length < 32) : tokR fi ow ps 1 s b = (4, s, []) := (if_pos rfl).trans (if_pos h)
theorem tokR_e {fi : Bool} {ow : Nat → Nat} {ps : List (Nat → Nat)} {y : SY} {r : RS} {us : Nat} {b : List Nat} (h : ¬ b.length < 32) : tokR fi ow ps 1 (y, r, us) b = (0, (freshP (npk ps) y (fun j => b.getD j 0), (r.1, r.2.1, r.2.2.1, r.2.2.2.1, (fun j => b.getD j 0), true), us), b.drop 32) := (if_pos rfl).trans (if_neg h)
theorem tokR_s_no {fi : Bool} {ow : Nat → Nat} {ps : List (Nat → Nat)} {y : SY} {r : RS} {us : Nat} {b : List Nat} (h : b.length < keyN y) : tokR fi ow ps 2 (y, r, us) b = (4, (y, r, us), []) := (if_neg (by decide)).trans ((if_pos rfl).trans (if_pos h))
theorem tokR_s {fi : Bool} {ow : Nat → Nat} {ps : List (Nat → Nat)} {y : SY} {r : RS} {us : Nat} {b : List Nat} {w : Nat × SY × List Nat} (h : ¬ b.length < keyN y) (hw : openP y (b.take (keyN y)) = w) (h0 : w.1 = 0) : tokR fi ow ps 2 (y, r, us) b = (0, (w.2.1, (r.1, r.2.1, (fun j => w.2.2.getD j 0), true, r.2.2.2.2), us), b.drop (keyN y)) := by
  subst hw
  exact (if_neg (by decide)).trans ((if_pos rfl).trans ((if_neg h).trans (if_pos h0)))
theorem tokR_s_err {fi : Bool} {ow : Nat → Nat} {ps : List (Nat → Nat)} {y : SY} {r : RS} {us : Nat} {b : List Nat} {w : Nat × SY × List Nat} (h : ¬ b.length < keyN y) (hw : openP y (b.take (keyN y)) = w) (h0 : w.1 ≠ 0) : tokR fi ow ps 2 (y, r, us) b = (w.1, (w.2.1, r, us), []) := by
  subst hw
  exact (if_neg (by decide)).trans ((if_pos rfl).trans ((if_neg h).trans (if_neg h0)))
theorem tokR_x {fi : Bool} {ow : Nat → Nat} {ps : List (Nat → Nat)} {t : Nat} {s : SS} {b : List Nat} {w : Nat × SS} (h3 : 3 ≤ t) (h : bothT fi ow ps t s = w) : tokR fi ow ps t s b = (w.1, w.2, b) := by
  subst h
  exact (if_neg (by omega)).trans (if_neg (by omega))
theorem part_shows {G : Mem} {v : Value} {l : List Nat} (n : Nat) (h : Shows G 1 v l.length (l.map by8)) (hn : n ≤ l.length) : Shows G 1 (slPart 1 v n l.length) (l.drop n).length ((l.drop n).map by8) := by
  have h1 := h.part (i := n) (j := l.length) hn (Nat.le_refl _)
  rw [Nat.mul_one, Nat.mul_one] at h1
  have e : ((l.map by8).drop n).take (l.length - n) = (l.drop n).map by8 := by
    rw [List.map_drop]
    exact List.take_of_length_le (by simp)
  rw [e] at h1
  rw [List.length_drop]; exact h1
theorem head_shows {G : Mem} {v : Value} {l : List Nat} (n : Nat) (h : Shows G 1 v l.length (l.map by8)) (hn : n ≤ l.length) : Shows G 1 (slPart 1 v 0 n) (l.take n).length ((l.take n).map by8) := by
  have h1 := h.part (i := 0) (j := n) (Nat.zero_le _) hn
  rw [Nat.zero_mul, List.drop_zero, Nat.sub_zero, Nat.mul_one] at h1
  have e : (l.map by8).take n = (l.take n).map by8 := by rw [List.map_take]
  rw [e] at h1
  rw [List.length_take, Nat.min_eq_left hn]; exact h1
theorem key_cells {l : List Nat} (h : 32 ≤ l.length) : (((l.map by8).drop 0).take 32).toArray = arr .u8 32 (fun j => l.getD j 0) := by
  rw [List.drop_zero]
  apply Array.ext'
  apply List.ext_getElem
  · simp [arr]; omega
  · intro j h1 h2
    simp [arr] at h1 h2
    simp [arr, List.getD_eq_getElem?_getD, List.getElem?_eq_getElem (show j < l.length by omega)]
theorem key_cells2 {l : List Nat} (h : 32 ≤ l.length) : ((((l.take 32).map by8).drop 0).take 32).toArray = arr .u8 32 (fun j => l.getD j 0) := by
  rw [key_cells (by rw [List.length_take]; omega)]
  refine arr_congr fun j hj => ?_
  rw [List.getD_eq_getElem?_getD, List.getD_eq_getElem?_getD, List.getElem?_take, if_pos hj]
theorem keyN_t {kn : Nat} {y : SY} (h : kn = keyN y) (h1 : y.1 = true) : kn = 48 := by rw [h, keyN, h1]; rfl
theorem keyN_f {kn : Nat} {y : SY} (h : kn = keyN y) (h1 : y.1 = false) : kn = 32 := by rw [h, keyN, h1]; rfl
theorem tok_in {q : List Nat} (h : ∀ x ∈ q, 1 ≤ x ∧ x ≤ 7) {i : Nat} (hi : i < q.length) : 1 ≤ q.getD i 0 ∧ q.getD i 0 ≤ 7 := h _ (by rw [List.getD_eq_getElem?_getD, List.getElem?_eq_getElem hi]; exact List.getElem_mem hi)
theorem turnR_stop {fi : Bool} {ow : Nat → Nat} {ps : List (Nat → Nat)} {q : List Nat} {s s' : SS} {b : List Nat} {e : Nat} (h : runR fi ow ps q s b = (e, s', [])) (he : e ≠ 0) : turnR fi ow ps q s b = (e, s', []) := by
  unfold turnR
  rw [h, if_neg he]
theorem turnR_fin {fi : Bool} {ow : Nat → Nat} {ps : List (Nat → Nat)} {q : List Nat} {s : SS} {y1 : SY} {r1 : RS} {u1 : Nat} {b b' : List Nat} {z : Nat × SY × List Nat} (h : runR fi ow ps q s b = (0, (y1, r1, u1), b')) (hz : openP y1 b' = z) : turnR fi ow ps q s b = (z.1, (z.2.1, r1, u1), z.2.2) := by
  unfold turnR
  rw [h, if_pos rfl]
  subst hz; rfl
theorem run_endR {fi : Bool} {ow : Nat → Nat} {ps : List (Nat → Nat)} {q : List Nat} {i : Nat} {s : SS} {b : List Nat} (h : i = q.length) : runR fi ow ps (q.drop i) s b = (0, s, b) := by
  rw [h, List.drop_length]; rfl
def CopyIs (b : List Nat) (l : Bool) (qs p0 p1 : List Int) (ts : List (List Int)) (ps : List (Nat → Nat)) (fi : Bool) (tn : Int) (dd : Bool) (y : SY) (ow : Nat → Nat) (r : RS) (us : Int) (v : Value) (B : Mem) : Prop :=
  ∃ vp v0 v1 vt vk tvs, v = .agg (shC b l vp v0 v1 vt fi tn dd y ow r vk us) ∧ Shows B 1 vp qs.length (qs.map iv) ∧ Shows B 1 vt tvs.length tvs ∧ ShowsLI B (v0 :: v1 :: tvs) (p0 :: p1 :: ts) ∧ Shows B 32 vk ps.length (psC ps) ∧ ones vp v0 v1 vt vk
theorem openP_nil {y : SY} {tx : List Nat} (h : (openP y tx).1 ≠ 0) : (openP y tx).2.2 = [] := by
  revert h
  unfold openP
  split
  · intro _; rfl
  split
  · split
    · intro _; rfl
    · intro h; exact absurd rfl h
  split
  · intro _; rfl
  split
  · intro _; rfl
  split
  · intro _; rfl
  split
  · intro h; exact absurd rfl h
  · intro _; rfl
def mayP (dd : Bool) (tn : Int) (n : Nat) (us : Int) (f0 late : Bool) (pf : Nat) : Bool :=
  if dd = true ∨ us < 0 ∨ tn < 0 ∨ (n : Int) ≤ tn then false else (f0 == (decide (((tn.toNat % 2 : Nat) : Int) = 0) != late)) && decide ((pf : Int) = 0)
theorem li_app {B : Mem} {v0 v1 : Value} {p0 p1 : List Int} {vs : List Value} {ts : List (List Int)} (h0 : Shows B 1 v0 p0.length (p0.map iv)) (h1 : Shows B 1 v1 p1.length (p1.map iv)) (hl : vs.length = ts.length) (hs : ∀ j, j < ts.length → Shows B 1 (vs.getD j undef) (ts.getD j []).length ((ts.getD j []).map iv)) : ShowsLI B (v0 :: v1 :: vs) (p0 :: p1 :: ts) :=
  ⟨by simp [hl], fun i hi => match i with
    | 0 => h0
    | 1 => h1
    | i + 2 => hs i (by simpa using hi)⟩
theorem li_app2 {B : Mem} {v0 v1 : Value} {q0 q1 : List Nat} {vs : List Value} {ts : List (List Int)} (h0 : Shows B 1 v0 q0.length ((ci q0).map iv)) (h1 : Shows B 1 v1 q1.length ((ci q1).map iv)) (hL : ShowsLI B vs ts) : ShowsLI B (v0 :: v1 :: vs) (ci q0 :: ci q1 :: ts) :=
  li_app (by rw [show (ci q0).length = q0.length from by simp [ci]]; exact h0) (by rw [show (ci q1).length = q1.length from by simp [ci]]; exact h1) hL.1 hL.2
theorem set_at {vs : List Value} {i j : Nat} {w : Value} (hi : i < vs.length) : (vs.set i w).getD j undef = if j = i then w else vs.getD j undef := by
  rw [List.getD_eq_getElem?_getD, List.getElem?_set]
  by_cases e : i = j
  · subst e; rw [if_pos rfl, if_pos hi, if_pos rfl]; rfl
  · rw [if_neg e, if_neg (fun x => e x.symm), ← List.getD_eq_getElem?_getD]
theorem keys_one (ps : List (Nat → Nat)) : ∀ u ∈ psC ps, u.oneCell' = true := fun u hu => by
  obtain ⟨f, _, hu⟩ := List.mem_flatMap.1 hu
  obtain ⟨x, _, rfl⟩ := List.mem_map.1 hu
  rfl
theorem shows_room (z : Nat) (xs : List Value) (n : Nat) (hx : xs.length = n * z) (m : Mem) : ∃ v nw, Shows nw z v n xs ∧ FreshM m nw := by
  obtain ⟨r, hr⟩ := fresh_of m
  exact ⟨.slice (some ⟨r, 0, none⟩) n n, [⟨r, xs.toArray, 0⟩], shows_new xs.toArray 0 (by simpa using hx), by simp, fun x hx y hy => by simp at hx; subst hx; exact hr y hy⟩
theorem copy_room (b : List Nat) (l : Bool) (qs p0 p1 : List Int) (ts : List (List Int)) (ps : List (Nat → Nat)) (fi : Bool) (tn : Int) (dd : Bool) (y : SY) (ow : Nat → Nat) (r : RS) (us : Int) (m : Mem) : ∃ v nw, CopyIs b l qs p0 p1 ts ps fi tn dd y ow r us v nw ∧ FreshM m nw := by
  have many : ∀ (ls : List (List Int)) (m : Mem), ∃ (vs : List Value) (nw : Mem), ShowsLI nw vs ls ∧ FreshM m nw := by
    intro ls
    induction ls with
    | nil => exact fun m => ⟨[], [], ⟨rfl, fun i hi => absurd hi (Nat.not_lt_zero i)⟩, fresh_nil m⟩
    | cons q ls ih =>
      intro m
      obtain ⟨v, n1, h1, f1⟩ := shows_room 1 (q.map iv) q.length (by simp) m
      obtain ⟨vs, n2, h2, f2⟩ := ih (m ++ n1)
      refine ⟨v :: vs, n1 ++ n2, ⟨by simp [h2.1], fun i hi => ?_⟩, fresh_cat f1 f2⟩
      match i with
      | 0 => exact h1.mono fun x hx => List.mem_append_left _ hx
      | i + 1 => exact (h2.2 i (by simpa using hi)).mono fun x hx => List.mem_append_right _ hx
  obtain ⟨vs, n1, h1, f1⟩ := many (qs :: p0 :: p1 :: ts) m
  match vs, h1 with
  | vp :: v0 :: v1 :: tvs, h1 =>
    obtain ⟨vt, n2, h2, f2⟩ := shows_room 1 tvs tvs.length (by simp) (m ++ n1)
    obtain ⟨vk, n3, h3, f3⟩ := shows_room 32 (psC ps) ps.length (flatMap_len keyC_len ps) (m ++ (n1 ++ n2))
    have hA := h1.2 0 (by simp)
    have hB := h1.2 1 (by simp)
    have hC := h1.2 2 (by simp)
    refine ⟨_, (n1 ++ n2) ++ n3, ⟨vp, v0, v1, vt, vk, tvs, rfl, ?_, ?_, ?_, ?_, shows_oneC hA, shows_oneC hB, shows_oneC hC, shows_oneC h2, shows_oneC h3⟩, fresh_cat (fresh_cat f1 f2) f3⟩
    · exact Shows.mono hA fun x hx => List.mem_append_left _ (List.mem_append_left _ hx)
    · exact h2.mono fun x hx => List.mem_append_left _ (List.mem_append_right _ hx)
    · exact li_mono (li_tail h1) fun x hx => List.mem_append_left _ (List.mem_append_left _ hx)
    · exact h3.mono fun x hx => List.mem_append_right _ hx
  | [], h1 => exact absurd h1.1 (by simp)
  | [_], h1 => exact absurd h1.1 (by simp)
  | [_, _], h1 => exact absurd h1.1 (by simp)
theorem or4_t {a : Bool} {p q r : Prop} [Decidable p] [Decidable q] [Decidable r] (h : (a || (decide p || (decide q || decide r))) = true) : a = true ∨ p ∨ q ∨ r := by simpa using h
theorem or4_f {a : Bool} {p q r : Prop} [Decidable p] [Decidable q] [Decidable r] (h : (a || (decide p || (decide q || decide r))) = false) : ¬ (a = true ∨ p ∨ q ∨ r) := by
  intro h2
  have : (a || (decide p || (decide q || decide r))) = true := by simpa using h2
  rw [this] at h
  cases h
theorem getD_in {ts : List (List Int)} {i : Nat} (h : i < ts.length) : ts.getD i [] ∈ ts := by
  rw [List.getD_eq_getElem?_getD, List.getElem?_eq_getElem h]; exact List.getElem_mem h
def WrIs (b : List Nat) (l : Bool) (qs p0 p1 : List Int) (ts : List (List Int)) (ps : List (Nat → Nat)) (fi : Bool) (tn : Int) (dd : Bool) (y : SY) (ow : Nat → Nat) (r : RS) (us : Int) (e : Nat) (out : List Nat) (v : Value) (B : Mem) : Prop :=
  ∃ v' w', v = .tuple #[v', w', ii e] ∧ CopyIs b l qs p0 p1 ts ps fi tn dd y ow r us v' B ∧ Shows B 1 w' out.length (out.map by8)
theorem copy_mono {b : List Nat} {l : Bool} {qs p0 p1 : List Int} {ts : List (List Int)} {ps : List (Nat → Nat)} {fi : Bool} {tn : Int} {dd : Bool} {y : SY} {ow : Nat → Nat} {r : RS} {us : Int} {v : Value} {B B' : Mem} (h : CopyIs b l qs p0 p1 ts ps fi tn dd y ow r us v B) (hs : ∀ x ∈ B, x ∈ B') : CopyIs b l qs p0 p1 ts ps fi tn dd y ow r us v B' := by
  obtain ⟨vp, v0, v1, vt, vk, tvs, h1, h2, h3, h4, h5, h6⟩ := h
  exact ⟨vp, v0, v1, vt, vk, tvs, h1, h2.mono hs, h3.mono hs, li_mono h4 hs, h5.mono hs, h6⟩
theorem wr_room (b : List Nat) (l : Bool) (qs p0 p1 : List Int) (ts : List (List Int)) (ps : List (Nat → Nat)) (fi : Bool) (tn : Int) (dd : Bool) (y : SY) (ow : Nat → Nat) (r : RS) (us : Int) (e : Nat) (out : List Nat) (m : Mem) : ∃ v nw, WrIs b l qs p0 p1 ts ps fi tn dd y ow r us e out v nw ∧ FreshM m nw := by
  obtain ⟨v, n1, h1, f1⟩ := copy_room b l qs p0 p1 ts ps fi tn dd y ow r us m
  obtain ⟨w, n2, h2, f2⟩ := shows_room 1 (out.map by8) out.length (by simp) (m ++ n1)
  exact ⟨_, n1 ++ n2, ⟨v, w, rfl, copy_mono h1 fun x hx => List.mem_append_left _ hx, h2.mono fun x hx => List.mem_append_right _ hx⟩, fresh_cat f1 f2⟩
theorem runW_len {fi : Bool} {ow : Nat → Nat} {ps : List (Nat → Nat)} {sc : Nat → Nat} : ∀ (q : List Nat) (s : SS) (out : List Nat), (runW fi ow ps sc q s out).2.2.length ≤ out.length + 48 * q.length
  | [], _, _ => by simp [runW]
  | t :: q, s, out => by
    rw [runW]
    split
    · have h1 := runW_len (fi := fi) (ow := ow) (ps := ps) (sc := sc) q (tokW fi ow ps sc t s).2.1 (out ++ (tokW fi ow ps sc t s).2.2)
      have h2 := tokW_len (fi := fi) (ow := ow) (ps := ps) (sc := sc) (t := t) (s := s)
      rw [List.length_append] at h1
      rw [List.length_cons]; omega
    · simp
theorem runR_len {fi : Bool} {ow : Nat → Nat} {ps : List (Nat → Nat)} : ∀ (q : List Nat) (s : SS) (b : List Nat), (runR fi ow ps q s b).2.2.length ≤ b.length
  | [], _, _ => Nat.le_refl _
  | t :: q, s, b => by
    rw [runR]
    split
    · exact Nat.le_trans (runR_len q _ _) tokR_len
    · simp
theorem turnR_len {fi : Bool} {ow : Nat → Nat} {ps : List (Nat → Nat)} (q : List Nat) (s : SS) (b : List Nat) : (turnR fi ow ps q s b).2.2.length ≤ b.length := by
  unfold turnR
  split
  · exact Nat.le_trans (openP_len _ _) (runR_len q s b)
  · simp
theorem li_row {B : Mem} {vs : List Value} {ts : List (List Int)} (h : ShowsLI B vs ts) {i : Nat} {q : List Nat} (hi : i < ts.length) (he : ts.getD i [] = ci q) : Shows B 1 (vs.getD i undef) q.length ((ci q).map iv) := by
  have h1 := h.2 i hi
  rw [he] at h1
  rwa [show (ci q).length = q.length by simp [ci]] at h1
def doneP (dd : Bool) (n : Nat) (tn : Int) : Bool := !dd && decide ((n : Int) ≤ tn)
def begY (n : List Nat) : SY := (false, fun _ => 0, 0, sbeg n, sbeg n)
theorem zero_byte : (0 : Nat) < 256 := by decide
theorem okY_beg {n : List Nat} (h : ∀ b ∈ n, b < 256) : okY (begY n) := ⟨fun _ _ => zero_byte, zero_small, fun _ _ => sbeg_lt h _, fun _ _ => sbeg_lt h _⟩
def tokA (mine : Bool) (ow ea : Nat → Nat) (np : Bool) (t : Nat) (s : SY × RS) : SY × RS :=
  if t = 2 then (if mine then (hashP s.1 (ky (pubK ow)), s.2) else (hashP s.1 (ky s.2.2.2.1), s.2))
  else if mine then (freshP np s.1 (pubK ea), (ea, true, s.2.2.2)) else (freshP np s.1 ea, (s.2.1, s.2.2.1, s.2.2.2.1, s.2.2.2.2.1, ea, true))
def runA (mine : Bool) (ow ea : Nat → Nat) (np : Bool) (q : List Nat) (s : SY × RS) : SY × RS := q.foldl (fun s t => tokA mine ow ea np t s) s
def aheadP (fi : Bool) (ow ea : Nat → Nat) (np : Bool) (q0 q1 : List Nat) (s : SY × RS) : SY × RS := runA (!fi) ow ea np q1 (runA fi ow ea np q0 s)
theorem runA_next {mine np : Bool} {ow ea : Nat → Nat} {q : List Nat} {i : Nat} {s : SY × RS} (h : i < q.length) : runA mine ow ea np (q.take (i + 1)) s = tokA mine ow ea np (q.getD i 0) (runA mine ow ea np (q.take i) s) := by
  unfold runA
  rw [List.take_add_one, List.foldl_append, List.getD_eq_getElem?_getD, List.getElem?_eq_getElem h]; rfl
theorem okA {mine np : Bool} {ow ea : Nat → Nat} {t : Nat} {s : SY × RS} (hs : okY s.1 ∧ okR s.2) (he : B32 ea) : okY (tokA mine ow ea np t s).1 ∧ okR (tokA mine ow ea np t s).2 := by
  unfold tokA
  split
  · split
    · exact ⟨okY_hash hs.1 _, hs.2⟩
    · exact ⟨okY_hash hs.1 _, hs.2⟩
  · split
    · exact ⟨okY_fresh hs.1 _ _, he, hs.2.2⟩
    · exact ⟨okY_fresh hs.1 _ _, hs.2.1, hs.2.2.1, he⟩
theorem knA9 {mine np : Bool} {ow ea : Nat → Nat} {t : Nat} {s : SY × RS} : (tokA mine ow ea np t s).2.2.2.2.1 = s.2.2.2.2.1 := by
  unfold tokA
  split
  · split <;> rfl
  · split <;> rfl
theorem and3_t {p : Prop} [Decidable p] {b c : Bool} (h : (decide p && (!b && !c)) = true) : p ∧ b = false ∧ c = false := by
  cases b <;> cases c <;> simp_all
end Go.Proofs.YthljakcegoohlaaGreatDoor
namespace Go.Proofs.YthljakcegoohlaaGreatDoor
open Go Go.RowKit
section
variable {P : Program} {G : Mem} {R : Reg} {ops : Array Oper} {K : Act → Mem → Prop} {rest : List Oper} {a : Act} {m : Mem} {d : Option Tmp} {ty : TypeId} {pos : String} {aft : Array Edge}
variable {T T' : TypeId} {x y : Operand}
theorem st_eqNil {e : TypeId} {oa : Option Addr} {len cap : Nat} (hT : P.underlying T = some (.slice e)) (hx : a.eval x = .slice oa len cap) (hy : a.eval y = nilS) (h : opsM P G R ops K rest (a.put d (.bool oa.isNone)) m) :
    opsM P G R ops K (⟨d, .binOp .eql T x y T', ty, pos, aft, none⟩ :: rest) a m :=
  st_bin (fun w => by
    have h1 : (Op.equalIn 10000 T (.slice oa len cap) (.slice none 0 0)).run P w = .ok oa.isNone w := by
      unfold Op.equalIn
      rw [Sem.run_bind, run_underlying hT]
      cases oa <;> rfl
    rw [hx, hy]
    simp only [Sem.run_bind, eqGuard, binOp, Op.equal, Op.maxDepth]
    simp [h1]) h
end
section
variable {P : Program} {G : Mem} {R : Reg} {ops : Array Oper} {n : Nat} {K : Env → Mm → Prop} {Q : Exit → Env → Mm → Prop} {rest : List Oper} {E : Env} {M : Mm} {d : Nat} {ty : TypeId} {pos : String} {aft : Array Edge}
variable {T T' : TypeId} {x y : Operand}
theorem e_eqNil {e : TypeId} {v : Value} {B : Mem} {z k : Nat} {xs : List Value} (hv : Shows B z v k xs) (hT : P.underlying T = some (.slice e)) (hx : rd E x = some v) (hy : rd E y = some nilS) (hd : Nat.blt d n = true)
    (h : ∀ b : Bool, (b = true → k = 0) → OpsE P G R ops n K rest ((d, .bool b) :: E) M) : OpsE P G R ops n K (⟨some d, .binOp .eql T x y T', ty, pos, aft, none⟩ :: rest) E M := fun _ _ ha hM => by
  rcases hv with ⟨h0, _, oa, cap, rfl, _⟩ | ⟨b, o, cap, c, t, rfl, _⟩
  · exact st_eqNil hT (ha.rd hx) (ha.rd hy) (h _ (fun _ => h0) _ _ (ha.put hd _) hM)
  · exact st_eqNil hT (ha.rd hx) (ha.rd hy) (h _ (fun hb => by cases hb) _ _ (ha.put hd _) hM)
end
section
variable {P : Program} {G : Mem} {R : Reg} {ops : Array Oper} {K : Act → Mem → Prop} {rest : List Oper} {a : Act} {m : Mem} {d : Option Tmp} {ty : TypeId} {pos : String} {aft : Array Edge}
variable {T T' : TypeId} {x y : Operand}
theorem st_neB {p q : Bool} (hT : P.underlying T = some .bool) (hx : a.eval x = .bool p) (hy : a.eval y = .bool q) (h : opsM P G R ops K rest (a.put d (.bool (p != q))) m) :
    opsM P G R ops K (⟨d, .binOp .neq T x y T', ty, pos, aft, none⟩ :: rest) a m :=
  st_bin (fun w => by
    have h1 : (Op.equalIn 10000 T (.bool p) (.bool q)).run P w = .ok (p == q) w := run_equalIn_bool' w 9999 T p q hT
    rw [hx, hy]
    simp only [Sem.run_bind, eqGuard, binOp, Op.equal, Op.maxDepth]
    simp [h1, bne]) h
end
section
variable {P : Program} {G : Mem} {R : Reg} {ops : Array Oper} {n : Nat} {K : Env → Mm → Prop} {rest : List Oper} {E : Env} {M : Mm} {d : Nat} {ty : TypeId} {pos : String} {aft : Array Edge}
variable {T T' : TypeId} {x y : Operand}
theorem e_neB {p q : Bool} (hT : P.underlying T = some .bool) (hx : rd E x = some (.bool p)) (hy : rd E y = some (.bool q)) (hd : Nat.blt d n = true) (h : OpsE P G R ops n K rest ((d, .bool (p != q)) :: E) M) :
    OpsE P G R ops n K (⟨some d, .binOp .neq T x y T', ty, pos, aft, none⟩ :: rest) E M := fun _ _ ha hM => st_neB hT (ha.rd hx) (ha.rd hy) (h _ _ (ha.put hd _) hM)
end
section
variable {P : Program} {G : Mem} {n : Nat}
def EndD3 (P : Program) (S : Value → Mem → Prop) (fn : Func) : Exit → Env → Mm → Prop
  | .normal, E, M | .ret, E, M => ∃ r r' r'' v v' v'' fz, fn.results = #[r, r', r''] ∧ Res P E M r v ∧ Res P E M r' v' ∧ Res P E M r'' v'' ∧ S (.tuple #[v, v', v'']) fz ∧ Bag fz M
  | _, _, _ => False
theorem fxD3 {f : FuncId} {fn : Func} {c : Code} {args : Array Value} {S : Value → Mem → Prop} (hf : P.funcs[f]? = some fn) (hb : fn.body = some c) (hn : fn.ntmps = n) (ha : args.size ≤ n) (E : Env) (hE : ∀ t v, lk E t = some v → args[t]? = some v)
    (h : SatE P G c n (EndD3 P S fn) E []) : Fx P G [] f args (fun v l1 nw => l1 = [] ∧ S v nw) :=
  fx_of hf hb (sat_mono (h _ [] ⟨by simp [hn]; omega, rfl, fun t v ht => by
    have := hE t v ht
    have hlt := (Array.getElem?_eq_some_iff.1 this).1
    rw [Array.getElem?_append_left hlt]; exact this⟩ (FitsM.nil _)) fun e' a m ⟨E', M', h1, h0, h2⟩ => by
      have key : (∃ r r' r'' v v' v'' fz, fn.results = #[r, r', r''] ∧ Res P E' M' r v ∧ Res P E' M' r' v' ∧ Res P E' M' r'' v'' ∧ S (.tuple #[v, v', v'']) fz ∧ Bag fz M') → a.defers = [] ∧ ∃ v l1 nw, (l1 = [] ∧ S v nw) ∧ (nw.map (·.b)).Nodup ∧ (∀ x ∈ nw, x.b ∉ ([] : Mem).map (·.b)) ∧ (∀ x ∈ l1 ++ nw, x ∈ m) ∧ ∀ w, MemIn m w → (results fn a.tmps).run P w = .ok v w := fun ⟨r, r', r'', v, v', v'', fz, hr, hR, hR', hR'', ho, hb⟩ =>
        ⟨h1.defers, .tuple #[v, v', v''], [], fz, ⟨rfl, ho⟩, (h0.bag_in hb).1, by simp, fun x hx => (h0.bag_in hb).2 x (by simpa using hx), fun w hw => by
          have := res_run h1 h0 hw hR
          have t' := res_run h1 h0 hw hR'
          have t'' := res_run h1 h0 hw hR''
          rw [results_eq, hr, mapM3]
          simp [this, t', t'']⟩
      cases e' <;> first | exact key h2 | exact h2.elim)
end
end Go.Proofs.YthljakcegoohlaaGreatDoor
namespace Go.Proofs.YthljakcegoohlaaGreatDoor
open Go Go.RowKit
abbrev FL := Bool × Bool × Bool × Bool
structure Meet (ow ow' : Nat → Nat) (c : Nat) (F : FL) (s s' : SS) : Prop where
  y : s.1 = s'.1
  u : s.2.2 = s'.2.2
  ok : okC s.1.1 s.1.2.1 s.1.2.2.1 = true
  n : s.1.2.2.1 ≤ c
  f1 : s.2.1.2.1 = F.1
  f2 : s'.2.1.2.2.2.2.2 = F.1
  g1 : s'.2.1.2.1 = F.2.1
  g2 : s.2.1.2.2.2.2.2 = F.2.1
  k1 : s.2.1.2.2.2.1 = F.2.2.1
  k2 : s'.2.1.2.2.2.1 = F.2.2.2
  fk : F.1 = true → B32 s.2.1.1 ∧ ky s'.2.1.2.2.2.2.1 = ky (pubK s.2.1.1)
  gk : F.2.1 = true → B32 s'.2.1.1 ∧ ky s.2.1.2.2.2.2.1 = ky (pubK s'.2.1.1)
  lk : F.2.2.1 = true → ky s.2.1.2.2.1 = ky (pubK ow')
  jk : F.2.2.2 = true → ky s'.2.1.2.2.1 = ky (pubK ow)
end Go.Proofs.YthljakcegoohlaaGreatDoor
namespace Go.Proofs.YthljakcegoohlaaGreatDoor
open Go Go.RowKit
theorem beg_room (b : List Nat) (l : Bool) (qs p0 p1 : List Int) (ts : List (List Int)) (ps : List (Nat → Nat)) (fi : Bool) (tn : Int) (dd : Bool) (y : SY) (ow : Nat → Nat) (r : RS) (us : Int) (m : Mem) : ∃ v nw, (∃ v', v = Value.tuple #[v', ii 0] ∧ CopyIs b l qs p0 p1 ts ps fi tn dd y ow r us v' nw) ∧ FreshM m nw := by
  obtain ⟨v, nw, h, f⟩ := copy_room b l qs p0 p1 ts ps fi tn dd y ow r us m
  exact ⟨_, nw, ⟨v, rfl, h⟩, f⟩
def nmF : List Nat := [78, 111, 105, 115, 101, 95, 88, 88, 102, 97, 108, 108, 98, 97, 99, 107, 95, 50, 53, 53, 49, 57, 95, 67, 104, 97, 67, 104, 97, 80, 111, 108, 121, 95, 66, 76, 65, 75, 69, 50, 115]
def YX (c : Nat → Nat) : SY := freshP (npk []) (hashP (begY nmF) []) (pubK c)
def RX (c : Nat → Nat) : RS := (c, true, (fun _ => 0), false, (fun _ => 0), false)
def RY (c : Nat → Nat) : RS := ((fun _ => 0), false, (fun _ => 0), false, pubK c, true)
theorem zeros32 : B32 (fun _ => 0) := fun _ _ => zero_byte
structure BackIs (a b c d e : Nat → Nat) (tx : List Nat) (z1 z1' z2 z2' : SS) (m1 m2 : List Nat) : Prop where
  w1 : turnW false b [] d [1, 3, 2, 4] (YX c, RY c, 0) tx = (0, z1, m1)
  r1 : turnR true a [] [1, 3, 2, 4] (YX c, RX c, 0) m1 = (0, z1', tx)
  w2 : turnW true a [] e [2, 5] z1' [] = (0, z2, m2)
  r2 : turnR false b [] [2, 5] z1 m2 = (0, z2', [])
  l1 : m1.length ≤ 800
  l2 : m2.length ≤ 800
  b1 : ∀ x ∈ m1, x < 256
  b2 : ∀ x ∈ m2, x < 256
  o1 : okS z1
  o1' : okS z1'
  o2 : okS z2
  o2' : okS z2'
  u1 : z1.2.2 = 0
  u1' : z1'.2.2 = 0
  u2 : z2.2.2 = 0
  u2' : z2'.2.2 = 0
  y2 : z2.1 = z2'.1
  kx : ky z2.2.1.2.2.1 = ky (pubK b)
  kz : ky z2'.2.1.2.2.1 = ky (pubK a)
end Go.Proofs.YthljakcegoohlaaGreatDoor
namespace Go.Proofs.YthljakcegoohlaaGreatDoor
open Go Go.RowKit
def sdF (a c : Nat → Nat) : Nat → Nat := fun j => if j < 32 then a j else c (j - 32)
def sdG (a c b d : Nat → Nat) : Nat → Nat := fun j => if j < 64 then sdF a c j else sdF b d (j - 64)
theorem sd_a {a c b d : Nat → Nat} {j : Nat} (h : j < 32) : sdG a c b d (0 + j) = a j := by
  unfold sdG sdF; rw [if_pos (by omega), if_pos (by omega), Nat.zero_add]
theorem sd_b {a c b d : Nat → Nat} {j : Nat} (h : j < 32) : sdG a c b d (64 + j) = b j := by
  unfold sdG sdF; rw [if_neg (by omega), if_pos (by omega), show 64 + j - 64 = j by omega]
theorem sdF_0 {a c : Nat → Nat} {j : Nat} (h : j < 32) : sdF a c (0 + j) = a j := by
  unfold sdF; rw [if_pos (by omega), Nat.zero_add]
def TwoIs (base : List Nat) (late : Bool) (qs : List Int) (q0 q1 : List Nat) (us : List (List Nat)) (ps : List (Nat → Nat)) (a b : Nat → Nat) (zx zy : SY × RS) (v : Value) (B : Mem) : Prop :=
  ∃ v' w', v = .tuple #[v', w', .bool true] ∧ CopyIs base late qs (ci q0) (ci q1) (us.map ci) ps true 0 false zx.1 a zx.2 0 v' B ∧ CopyIs base late qs (ci q0) (ci q1) (us.map ci) ps false 0 false zy.1 b zy.2 0 w' B
theorem two_room (base : List Nat) (late : Bool) (qs : List Int) (q0 q1 : List Nat) (us : List (List Nat)) (ps : List (Nat → Nat)) (a b : Nat → Nat) (zx zy : SY × RS) (m : Mem) : ∃ v nw, TwoIs base late qs q0 q1 us ps a b zx zy v nw ∧ FreshM m nw := by
  obtain ⟨v, n1, h1, f1⟩ := copy_room base late qs (ci q0) (ci q1) (us.map ci) ps true 0 false zx.1 a zx.2 0 m
  obtain ⟨w, n2, h2, f2⟩ := copy_room base late qs (ci q0) (ci q1) (us.map ci) ps false 0 false zy.1 b zy.2 0 (m ++ n1)
  exact ⟨_, n1 ++ n2, ⟨v, w, rfl, copy_mono h1 fun x hx => List.mem_append_left _ hx, copy_mono h2 fun x hx => List.mem_append_right _ hx⟩, fresh_cat f1 f2⟩
theorem kn_one {q0 q1 : List Nat} : ∀ a : Nat, a < 2 → ∀ x ∈ qq q0 q1 a, x = 2 → (true == decide ((a : Int) = 0)) = false → decide (2 ∈ q1) = true := fun a ha x hx h2 hf => by
  have h0 : a = 1 := by
    rcases (by omega : a = 0 ∨ a = 1) with rfl | rfl
    · exact absurd hf (by decide)
    · rfl
  subst h0; subst h2
  exact decide_eq_true hx
theorem kn_two {q0 q1 : List Nat} : ∀ a : Nat, a < 2 → ∀ x ∈ qq q0 q1 a, x = 2 → (false == decide ((a : Int) = 0)) = false → decide (2 ∈ q0) = true := fun a ha x hx h2 hf => by
  have h0 : a = 0 := by
    rcases (by omega : a = 0 ∨ a = 1) with rfl | rfl
    · rfl
    · exact absurd hf (by decide)
  subst h0; subst h2
  exact decide_eq_true hx
theorem li_cons9 {B : Mem} {v : Value} {q : List Int} {vs : List Value} {ts : List (List Int)} (h : Shows B 1 v q.length (q.map iv)) (hL : ShowsLI B vs ts) : ShowsLI B (v :: vs) (q :: ts) :=
  ⟨by simp [hL.1], fun i hi => match i with
    | 0 => h
    | i + 1 => hL.2 i (by simpa using hi)⟩
theorem turnR_short {fi : Bool} {ow : Nat → Nat} {ps : List (Nat → Nat)} {q bx : List Nat} {s : SS} (h : bx.length < 32) : turnR fi ow ps (1 :: q) s bx = (4, s, []) := by
  have e : runR fi ow ps (1 :: q) s bx = (4, s, []) := by
    rw [runR]
    have e1 : tokR fi ow ps 1 s bx = (4, s, []) := by unfold tokR; rw [if_pos rfl, if_pos h]
    rw [e1]; rfl
  exact turnR_stop e (by decide)
theorem ok_run {mine np : Bool} {ow ea : Nat → Nat} (he : B32 ea) : ∀ (q : List Nat) (s : SY × RS), okY s.1 ∧ okR s.2 → okY (runA mine ow ea np q s).1 ∧ okR (runA mine ow ea np q s).2
  | [], _, h => h
  | _ :: q, _, h => ok_run he q _ (okA h he)
theorem ok_ahead {fi np : Bool} {ow ea : Nat → Nat} (he : B32 ea) {q0 q1 : List Nat} {s z : SY × RS} (h : okY s.1 ∧ okR s.2) (hz : aheadP fi ow ea np q0 q1 s = z) : okY z.1 ∧ okR z.2 := by
  rw [← hz]; exact ok_run he q1 _ (ok_run he q0 _ h)
theorem may_no {n : Nat} {us : Int} {pf : Nat} : mayP false 0 n us false false pf = false := by
  unfold mayP; split
  · rfl
  · rfl
theorem may_dead {tn : Int} {n : Nat} {us : Int} {f l : Bool} {pf : Nat} : mayP true tn n us f l pf = false := by
  unfold mayP; rw [if_pos (.inl rfl)]
theorem may_yes {n : Nat} {pf : Nat} (hn : 0 < n) (hp : pf = 0) : mayP false ((0 : Nat) : Int) n ((0 : Nat) : Int) true false pf = true := by
  unfold mayP; rw [if_neg (by rintro (h | h | h | h) <;> first | (cases h; done) | omega), hp]; rfl
theorem done_not {dd : Bool} {n : Nat} (h : 0 < n) : doneP dd n 0 = false := by
  unfold doneP; rw [decide_eq_false (by omega), Bool.and_false]
theorem shows_31 {e : TypeId} (r : Nat) : Shows [(⟨r, arr .u8 31 (fun _ => 0), e⟩ : Blk)] 1 (.slice (some ⟨r, 0, none⟩) 31 31) (List.replicate 31 0).length ((List.replicate 31 0).map by8) := by
  have h := shows_new (z := 1) (len := 31) (r := r) (arr .u8 31 (fun _ => 0)) e (by decide)
  exact h
theorem two_in {q : List Nat} {i : Nat} (hi : i < q.length) (h : ((q.getD i 0 : Nat) : Int) = 2) : 2 ∈ q := by
  have e : q.getD i 0 = 2 := by omega
  rw [List.getD_eq_getElem?_getD, List.getElem?_eq_getElem hi, Option.getD_some] at e
  rw [← e]; exact List.getElem_mem hi
theorem two_none {q : List Nat} (h : ∀ j, j < q.length → q.getD j 0 ≠ 2) : ¬ 2 ∈ q := fun h2 => by
  obtain ⟨j, hj, e⟩ := List.getElem_of_mem h2
  exact h j hj (by rw [List.getD_eq_getElem?_getD, List.getElem?_eq_getElem hj]; exact e)
end Go.Proofs.YthljakcegoohlaaGreatDoor
namespace Go.Proofs.YthljakcegoohlaaGreatDoor
open Go Go.RowKit
def renJ : Go.Shelf.Ren := ⟨fun n => if n = 156 then 128 else if n = 165 then 175 else if n = 166 then 176 else if n = 169 then 177 else if n = 240 then 225 else if n = 241 then 226 else if n = 276 then 256 else 257, fun n => if n = 0 then 0 else if n = 3 then 3 else if n = 4 then 4 else if n = 5 then 5 else if n = 9 then 9 else if n = 20 then 20 else if n = 31 then 142 else if n = 37 then 22 else if n = 70 then 226 else if n = 72 then 228 else if n = 75 then 231 else if n = 76 then 232 else if n = 80 then 234 else if n = 127 then 267 else 305, fun n => n⟩
set_option maxHeartbeats 4000000 in
theorem lay_join : Lays.n156 Tryz.prog renJ := by
  constructor <;> first | kernel_rfl | (intro w; kernel_rfl)
theorem lay_byte : Builder.Extra Tryz.prog renJ := by
  refine ⟨⟨?_, ?_⟩, ?_, ?_, ?_, ?_, ?_, ?_, ?_, ?_⟩ <;> first | kernel_rfl | (intro w; kernel_rfl) | decide
theorem bstr_data (l : List Nat) : (bstr l).data.toList = l.map UInt8.ofNat := by simp [bstr]
theorem join_bytes (ws : List (List Nat)) : Lib.join ((ws.map bstr).map (·.data.toList)) (bstr [43]).data.toList = (joinL 43 ws).map UInt8.ofNat := by
  have h1 : (ws.map bstr).map (·.data.toList) = ws.map fun w => w.map UInt8.ofNat := by
    rw [List.map_map]; exact List.map_congr_left fun w _ => bstr_data w
  rw [h1, bstr_data, ← joinL_lib]; rfl
theorem join_fn {G : Mem} (v : Value) (ws : List (List Nat)) (hv : Shows G 1 v ws.length (ws.map sv)) (hn : ws.length ≤ 1000) (hl : (joinL 43 ws).length ≤ 1000000) : Fn Tryz.prog G 128 #[v, sv [43]] (sv (joinL 43 ws)) := fun w hG => by
  have hf : renJ.f 156 = 128 := rfl
  have hlen : (Lib.join ((ws.map bstr).map (·.data.toList)) (bstr [43]).data.toList).length ≤ 140737488355328 := by rw [join_bytes, List.length_map]; omega
  have hres : (Value.string ⟨(Lib.join ((ws.map bstr).map (·.data.toList)) (bstr [43]).data.toList).toArray⟩) = sv (joinL 43 ws) := by rw [join_bytes]; rfl
  rcases hv with ⟨h0, _, oa, c, rfl, _⟩ | ⟨b, o, c, cs, t, rfl, hnc, hm, _, ho, hc⟩
  · obtain rfl : ws = [] := List.length_eq_zero_iff.1 h0
    exact (Any.strings_Join_none lay_join lay_byte oa c (bstr [43]) w).mono fun e w' ⟨he, hw⟩ => ⟨he, hw ▸ Below.refl _ _⟩
  · have hr := hG _ hm
    have := Any.strings_Join lay_join lay_byte b o c (ws.map bstr) (bstr [43]) w (fun j x hj => by
      have h1 : (ws.map sv)[j]? = some (.string x) := by
        rw [List.getElem?_map] at hj ⊢
        cases hw : ws[j]? with
        | none => rw [hw] at hj; cases hj
        | some q => rw [hw] at hj; injection hj with hj; subst hj; rfl
      have h2 := hc j _ h1
      have h3 : o + j < cs.size := (Array.getElem?_eq_some_iff.1 h2).1
      exact (hr.2 (o + j) h3).trans h2) hr.1 (by rw [List.length_map]; omega) (by rw [List.length_map]; exact hnc) hlen
    rw [List.length_map, hres] at this
    exact this
end Go.Proofs.YthljakcegoohlaaGreatDoor
namespace Go.Proofs.YthljakcegoohlaaGreatDoor
open Go.ChangeShapes Go.WideShapes Go.ChangeAt Go.RowKit
section
variable {P : Program} {W : World}
def RdT (P : Program) (W : World) (t : TypeId) (cs : List Value) (d : DataW Unit) : Prop := ∃ fuel p, DataW.trod (fun _ => ()) P W 0 (fun _ => true) false fuel t cs = some (d, p)
def VarT (P : Program) (W : World) (n : String) (d : DataW Unit) : Prop := ∃ g t cs, P.globalNamed n = some g ∧ (P.globals[g]?).map (·.type) = some t ∧ W.var? P n = some cs ∧ RdT P W t cs.toList d
theorem laid_vars : ∀ {l : List (String × DataW Unit)} {ps : List MemPlace}, DataW.LaidVars P W l ps → ∀ x ∈ l, VarT P W x.1 x.2
  | [], _, _, x, hx => absurd hx List.not_mem_nil
  | (n, d) :: r, ps, h, x, hx => by
    obtain ⟨g, t, cs, fuel, p, q, h1, h2, h3, h4, h5, _⟩ := h
    rcases List.mem_cons.1 hx with rfl | hx
    · exact ⟨g, t, cs, h1, h2, h3, fuel, p, h4⟩
    · exact laid_vars h5 x hx
theorem laid_metH {l : List (String × DataW Unit)} (hp : (l.all fun x => x.2.handleName?.isNone) = true) (h : laidMetH P l W) : ∀ x ∈ l, VarT P W x.1 x.2 := by
  rw [MakeChecks.laidMetH_plain _ _ _ hp] at h
  obtain ⟨ps, h1, _⟩ := h
  exact laid_vars h1
theorem cut_one {cs : List Value} {r : Nat} {v : Value} (h : (cs.drop r).take 1 = [v]) : cs[r]? = some v := by
  have h0 : ((cs.drop r).take 1)[0]? = some v := by rw [h]; rfl
  simpa using h0
theorem rd_ints {k : IntKind} {N : Nat} {e T : TypeId} {zs : List Int} {cs : List Value} (hT : P.underlying T = some (.array N e)) (he : P.underlying e = some (.int k)) (hc : P.cellsOf e = 1) (h : RdT P W T cs (.agg (zs.map fun n => .lit (.int k n)))) : ∀ r, r < N → cs[r]? = some (.int k (zs.getD r 0)) := by
  obtain ⟨fuel, p, hd⟩ := h
  obtain ⟨xs, m, _, ex, _, hl, hel⟩ := DataW.trod_array hT hd
  have e3 : (xs.map (·.1)) = zs.map fun n => .lit (.int k n) := (DataW.agg.inj (Prod.mk.inj ex).1).symm
  have hlen : zs.length = N := by
    have := congrArg List.length e3
    simpa [hl] using this.symm
  intro r hr
  have hE := hel r hr
  rw [hc, Nat.mul_one, List.getElem?_eq_getElem (by omega)] at hE
  obtain ⟨z, e1, e2, _⟩ := DataW.trod_int he hE
  have e4 : (xs.map (·.1))[r]? = (zs.map fun n => (DataW.lit (.int k n) : DataW Unit))[r]? := by rw [e3]
  rw [List.getElem?_map, List.getElem?_map, List.getElem?_eq_getElem (by omega : r < xs.length), List.getElem?_eq_getElem (by omega : r < zs.length), e2] at e4
  have hz : z = zs.getD r 0 := by
    simp only [Option.map_some, Option.some.injEq, DataW.lit.injEq, Lit.int.injEq, true_and] at e4
    rw [e4, List.getD, List.getElem?_eq_getElem (by omega : r < zs.length)]; rfl
  rw [← hz]
  exact cut_one e1
theorem rd_rows {k : IntKind} {M N : Nat} {e E T : TypeId} {rs : List (List Int)} {cs : List Value} (hT : P.underlying T = some (.array M E)) (hE : P.underlying E = some (.array N e)) (he : P.underlying e = some (.int k)) (hc : P.cellsOf e = 1) (hcE : P.cellsOf E = N)
    (h : RdT P W T cs (.agg (rs.map fun row => .agg (row.map fun n => .lit (.int k n))))) : ∀ r, r < M * N → cs[r]? = some (.int k ((rs.getD (r / N) []).getD (r % N) 0)) := by
  obtain ⟨fuel, p, hd⟩ := h
  obtain ⟨xs, m, _, ex, _, hl, hel⟩ := DataW.trod_array hT hd
  have e3 : (xs.map (·.1)) = rs.map fun row => .agg (row.map fun n => .lit (.int k n)) := (DataW.agg.inj (Prod.mk.inj ex).1).symm
  have hlen : rs.length = M := by
    have := congrArg List.length e3
    simpa [hl] using this.symm
  intro r hr
  have hN : 0 < N := Nat.pos_of_ne_zero fun h0 => by subst h0; simp at hr
  have hi : r / N < M := Nat.div_lt_of_lt_mul (by rw [Nat.mul_comm]; exact hr)
  have hj : r % N < N := Nat.mod_lt _ hN
  have hR := hel (r / N) hi
  rw [hcE, List.getElem?_eq_getElem (by omega)] at hR
  have e4 : (xs.map (·.1))[r / N]? = (rs.map fun row => (DataW.agg (row.map fun n => .lit (.int k n)) : DataW Unit))[r / N]? := by rw [e3]
  rw [List.getElem?_map, List.getElem?_map, List.getElem?_eq_getElem (by omega : r / N < xs.length), List.getElem?_eq_getElem (by omega : r / N < rs.length)] at e4
  simp only [Option.map_some, Option.some.injEq] at e4
  have hg : rs.getD (r / N) [] = rs[r / N] := by rw [List.getD, List.getElem?_eq_getElem (by omega : r / N < rs.length)]; rfl
  rw [hg]
  have hrow := rd_ints (P := P) (W := W) (zs := rs[r / N]) hE he hc ⟨m, (xs[r / N]).2, by rw [hR, ← e4]⟩ (r % N) hj
  rw [← hrow, List.getElem?_take_of_lt hj, List.getElem?_drop]
  congr 1
  have := Nat.div_add_mod r N
  rw [Nat.mul_comm]; omega
theorem rin_tab {n : String} {g N : Nat} {T : TypeId} {k : IntKind} {f : Nat → Nat} {d : DataW Unit} (hg : P.globalNamed n = some g) (ht : (P.globals[g]?).map (·.type) = some T) (hN : 0 < N) (h : VarT P W n d) (hr : ∀ cs, RdT P W T cs d → ∀ r, r < N → cs[r]? = some (.int k (f r : Int))) : RIn W ⟨g, arr k N f, T⟩ := by
  obtain ⟨g', t, cs, h1, h2, h3, h4⟩ := h
  obtain rfl := Option.some.inj (hg.symm.trans h1)
  obtain rfl := Option.some.inj (ht.symm.trans h2)
  have key : ∀ r, r < N → W.cell? ⟨g, r, none⟩ = some (.int k (f r : Int)) := fun r hrr => by
    rw [World.var?_cell hg h3 r]
    have := hr cs.toList h4 r hrr
    simpa using this
  refine ⟨?_, fun o ho => ?_⟩
  · have h0 := key 0 hN
    unfold World.cell? at h0
    cases hh : W.heap[g]? with
    | none => rw [hh] at h0; cases h0
    | some b => exact (Array.getElem?_eq_some_iff.1 hh).1
  · have ho : o < N := by simpa [arr_size] using ho
    show W.cell? ⟨g, o, none⟩ = (arr k N f)[o]?
    rw [arr_get ho]; exact key o ho
theorem memR_nil : MemR [] W := fun _ h => absurd h List.not_mem_nil
theorem memR_cons {x : Blk} {m : Mem} (h : RIn W x) (hm : MemR m W) : MemR (x :: m) W := fun y hy => by
  rcases List.mem_cons.1 hy with rfl | hy
  · exact h
  · exact hm y hy
theorem memR_app {m m' : Mem} (h : MemR m W) (hm : MemR m' W) : MemR (m ++ m') W := fun y hy => by
  rcases List.mem_append.1 hy with hy | hy
  · exact h y hy
  · exact hm y hy
end
end Go.Proofs.YthljakcegoohlaaGreatDoor
namespace Go.Proofs.YthljakcegoohlaaGreatDoor
open Go Go.ChangeShapes Go.WideShapes Go.ChangeAt Go.RowKit
section
variable {H : Type} {enc : TypeId × Value → H} {P : Program} {t e : TypeId}
end
end Go.Proofs.YthljakcegoohlaaGreatDoor
namespace Go.Proofs.YthljakcegoohlaaGreatDoor
open Go Go.ChangeShapes Go.WideShapes Go.ChangeAt Go.RowKit
section
variable {P : Program} {W : World}
theorem shape_int {g : Nat} {t : TypeId} {zero : Array Value} (h : W.ShapedOpen P) (hg : g < P.globals.size)
    (h0 : ((begin P (fun _ _ => 0) default).world.heap[g]?).bind Obj.row? = some (zero, t)) (hz : zero.size = 1)
    (hb : P.buildable t = true) (hc : P.cellTypes P.depth t = some [t]) (hu : P.underlying t = some (.int .i64)) : ∃ m : Int, RIn W ⟨g, #[.int .i64 m], t⟩ := by
  obtain ⟨cs, hh, hs, hr⟩ := h.1 g zero t hg h0
  obtain ⟨ts, hts, _, hall⟩ := hr hb
  rw [hc] at hts
  cases hts
  have h1 : 0 < cs.size := by omega
  obtain ⟨u, hu', hok⟩ := hall 0 cs[0] (by simp [h1])
  have : u = t := by simpa using hu'.symm
  subst this
  have hcell : W.cell? ⟨g, 0, none⟩ = some cs[0] := by simp [World.cell?, hh, h1]
  unfold Cell.ok at hok
  rw [hu] at hok
  obtain ⟨m, hm⟩ : ∃ m : Int, cs[0] = .int .i64 m := by
    cases hv : cs[0] <;> rw [hv] at hok <;> simp at hok
    rename_i k z
    exact ⟨z, by rw [hok.1]⟩
  refine ⟨m, (Array.getElem?_eq_some_iff.1 hh).1, fun o ho => ?_⟩
  have : o = 0 := by simpa using ho
  subst this
  rw [hcell, hm]; rfl
theorem rd_texts {N : Nat} {e T : TypeId} {ws : List (List UInt8)} {cs : List Value} (hT : P.underlying T = some (.array N e)) (he : P.underlying e = some .string) (hc : P.cellsOf e = 1) (h : RdT P W T cs (.agg (ws.map fun s => .lit (.string s)))) : ∀ r, r < N → cs[r]? = some (.string ⟨(ws.getD r []).toArray⟩) := by
  obtain ⟨fuel, p, hd⟩ := h
  obtain ⟨xs, m, _, ex, _, hl, hel⟩ := DataW.trod_array hT hd
  have e3 : (xs.map (·.1)) = ws.map fun s => .lit (.string s) := (DataW.agg.inj (Prod.mk.inj ex).1).symm
  have hlen : ws.length = N := by
    have := congrArg List.length e3
    simpa [hl] using this.symm
  intro r hr
  have hE := hel r hr
  rw [hc, Nat.mul_one, List.getElem?_eq_getElem (by omega)] at hE
  obtain ⟨z, e1, e2, _⟩ := DataW.trod_string he hE
  have e4 : (xs.map (·.1))[r]? = (ws.map fun s => (DataW.lit (.string s) : DataW Unit))[r]? := by rw [e3]
  rw [List.getElem?_map, List.getElem?_map, List.getElem?_eq_getElem (by omega : r < xs.length), List.getElem?_eq_getElem (by omega : r < ws.length), e2] at e4
  have hz : z.data.toList = ws.getD r [] := by
    simp only [Option.map_some, Option.some.injEq, DataW.lit.injEq, Lit.string.injEq] at e4
    rw [e4, List.getD, List.getElem?_eq_getElem (by omega : r < ws.length)]; rfl
  rw [← hz]
  exact cut_one e1
theorem rin_row {n : String} {g : Nat} {T : TypeId} {c : Array Value} {d : DataW Unit} (hg : P.globalNamed n = some g) (ht : (P.globals[g]?).map (·.type) = some T) (hN : 0 < c.size) (h : VarT P W n d) (hr : ∀ cs, RdT P W T cs d → ∀ r, r < c.size → cs[r]? = c[r]?) : RIn W ⟨g, c, T⟩ := by
  obtain ⟨g', t, cs, h1, h2, h3, h4⟩ := h
  obtain rfl := Option.some.inj (hg.symm.trans h1)
  obtain rfl := Option.some.inj (ht.symm.trans h2)
  have key : ∀ r, r < c.size → W.cell? ⟨g, r, none⟩ = c[r]? := fun r hrr => by
    rw [World.var?_cell hg h3 r]
    have := hr cs.toList h4 r hrr
    simpa using this
  refine ⟨?_, fun o ho => key o ho⟩
  have h0 := key 0 hN
  rw [Array.getElem?_eq_getElem hN] at h0
  unfold World.cell? at h0
  cases hh : W.heap[g]? with
  | none => rw [hh] at h0; cases h0
  | some b => exact (Array.getElem?_eq_some_iff.1 hh).1
end
section
variable {H : Type} {enc : TypeId × Value → H} {P : Program} {t : TypeId}
end
end Go.Proofs.YthljakcegoohlaaGreatDoor
namespace Go.Proofs.YthljakcegoohlaaGreatDoor
open Go.ChangeShapes Go.WideShapes Go.ChangeAt Go.RowKit
theorem laid_signet_blake_orders_rin {W : World} (h : VarT Tryz.prog W "signet/blake.orders" Rows.laid_signet_blake_orders) : RIn W (⟨6, arr .i64 160 sgf, 313⟩ : Blk) :=
  rin_tab (by kernel_rfl) (by kernel_rfl) (by decide) h fun cs hc r hr => by
    have h1 := rd_rows (M := 10) (N := 16) (rs := [[0, 1, 2, 3, 4, 5, 6, 7, 8, 9, 10, 11, 12, 13, 14, 15], [14, 10, 4, 8, 9, 15, 13, 6, 1, 12, 0, 2, 11, 7, 5, 3], [11, 8, 12, 0, 5, 2, 15, 13, 10, 14, 3, 6, 7, 1, 9, 4], [7, 9, 3, 1, 13, 12, 11, 14, 2, 6, 5, 10, 4, 0, 15, 8], [9, 0, 5, 7, 2, 4, 10, 15, 14, 1, 11, 12, 6, 8, 3, 13], [2, 12, 6, 10, 0, 11, 8, 3, 4, 13, 7, 5, 15, 14, 1, 9], [12, 5, 1, 15, 14, 13, 4, 10, 0, 7, 6, 3, 9, 2, 8, 11], [13, 11, 7, 14, 12, 1, 3, 9, 5, 0, 15, 4, 8, 6, 2, 10], [6, 15, 14, 9, 11, 3, 0, 8, 12, 2, 13, 7, 1, 4, 10, 5], [10, 2, 8, 4, 7, 6, 1, 5, 15, 11, 9, 14, 3, 12, 13, 0]]) (show Tryz.prog.underlying 313 = some (.array 10 312) by kernel_rfl) (show Tryz.prog.underlying 312 = some (.array 16 3) by kernel_rfl) (show Tryz.prog.underlying 3 = some (.int .i64) by kernel_rfl) (show Tryz.prog.cellsOf 3 = 1 by kernel_rfl) (show Tryz.prog.cellsOf 312 = 16 by kernel_rfl) hc r hr
    rw [h1]
    have h2 : ((List.range 160).all fun r => (([[0, 1, 2, 3, 4, 5, 6, 7, 8, 9, 10, 11, 12, 13, 14, 15], [14, 10, 4, 8, 9, 15, 13, 6, 1, 12, 0, 2, 11, 7, 5, 3], [11, 8, 12, 0, 5, 2, 15, 13, 10, 14, 3, 6, 7, 1, 9, 4], [7, 9, 3, 1, 13, 12, 11, 14, 2, 6, 5, 10, 4, 0, 15, 8], [9, 0, 5, 7, 2, 4, 10, 15, 14, 1, 11, 12, 6, 8, 3, 13], [2, 12, 6, 10, 0, 11, 8, 3, 4, 13, 7, 5, 15, 14, 1, 9], [12, 5, 1, 15, 14, 13, 4, 10, 0, 7, 6, 3, 9, 2, 8, 11], [13, 11, 7, 14, 12, 1, 3, 9, 5, 0, 15, 4, 8, 6, 2, 10], [6, 15, 14, 9, 11, 3, 0, 8, 12, 2, 13, 7, 1, 4, 10, 5], [10, 2, 8, 4, 7, 6, 1, 5, 15, 11, 9, 14, 3, 12, 13, 0]] : List (List Int)).getD (r / 16) []).getD (r % 16) 0 == (sgf r : Int)) = true := by decide +kernel
    have h3 := (List.all_eq_true.1 h2) r (List.mem_range.2 hr)
    rw [eq_of_beq h3]
theorem laid_signet_signetkeep_bases_rin {W : World} (h : VarT Tryz.prog W "signet/signetkeep.bases" Rows.laid_signet_signetkeep_bases) : RIn W (⟨0, (nm6.map sv).toArray, 86⟩ : Blk) :=
  rin_row (by kernel_rfl) (by kernel_rfl) (by decide) h fun cs hc r hr => by
    have hr : r < 6 := hr
    rw [rd_texts (N := 6) (ws := [[78, 78], [78, 75], [88, 88], [73, 75], [88, 75], [75, 75]]) (show Tryz.prog.underlying 86 = some (.array 6 9) by kernel_rfl) (by kernel_rfl) (by kernel_rfl) hc r hr]
    have : r = 0 ∨ r = 1 ∨ r = 2 ∨ r = 3 ∨ r = 4 ∨ r = 5 := by omega
    rcases this with rfl | rfl | rfl | rfl | rfl | rfl <;> rfl
end Go.Proofs.YthljakcegoohlaaGreatDoor
namespace Go.Proofs.YthljakcegoohlaaGreatDoor
open Go Go.ChangeShapes Go.WideShapes Go.ChangeAt Go.RowKit
section
variable {H : Type} {enc : TypeId × Value → H} {P : Program} {w : World} {base : Nat} {spare : Nat → Bool} {held : Bool}
end
end Go.Proofs.YthljakcegoohlaaGreatDoor
