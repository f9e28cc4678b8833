import Derived.Test.YthljakcegoohlabGreatDoorKB6
import Derived.Lib.Join
import Derived.ProofKit
import Derived.OpenShut
import Derived.LaidMore
import Derived.Lay
import Derived.MakeChecks
import Derived.Test.YthljakcegoohlabGreatDoorRows
namespace Go.Proofs.YthljakcegoohlabGreatDoor
open Go Go.RowKit
def pck (t : Nat) (last : Int) : List Int → Nat
  | [] => 0
  | n :: r => if n < 0 ∨ (t : Int) < n then 6 else if n ≤ last then 3 else pck t n r
theorem pfold_pck : ∀ (ps : List Int) (L : List (List Nat)) (last : Int), (pfold L last ps).1 = pck (L.length - 2) last ps
  | [], _, _ => rfl
  | n :: r, L, last => by
    rw [pfold, pck]
    by_cases h : n < 0 ∨ ((L.length - 2 : Nat) : Int) < n
    · rw [if_pos h, if_pos h]
    · rw [if_neg h, if_neg h]
      by_cases h2 : n ≤ last
      · rw [if_pos h2, if_pos h2]
      · rw [if_neg h2, if_neg h2, pfold_pck r (insT L n) n, insT_len]
def pchk (t : Nat) (ps : List Int) : Nat := if 4 < ps.length then 1 else pck t (-1) ps
theorem pwith_pchk {n : List Nat} {ps : List Int} (h : ptext n ≠ []) : (pwith n ps).1 = pchk ((pbase n).length - 2) ps := by
  rw [pwith, if_neg h, pchk]
  by_cases h4 : 4 < ps.length
  · rw [if_pos h4, if_pos h4]
  · rw [if_neg h4, if_neg h4, pfold_pck]
theorem pck_bound : ∀ {ps : List Int} {t : Nat} {last : Int}, pck t last ps = 0 → ∀ n ∈ ps, 0 ≤ n ∧ n ≤ (t : Int)
  | [], _, _, _, n, hn => by simp at hn
  | m :: r, t, last, h, n, hn => by
    rw [pck] at h
    by_cases h1 : m < 0 ∨ (t : Int) < m
    · rw [if_pos h1] at h; cases h
    · rw [if_neg h1] at h
      by_cases h2 : m ≤ last
      · rw [if_pos h2] at h; cases h
      · rw [if_neg h2] at h
        rcases List.mem_cons.1 hn with rfl | hn
        · omega
        · exact pck_bound h n hn
theorem pchk_bound {ps : List Int} {t : Nat} (h : pchk t ps = 0) : ps.length ≤ 4 ∧ ∀ i, i < ps.length → 0 ≤ ps.getD i 0 ∧ ps.getD i 0 ≤ (t : Int) := by
  rw [pchk] at h
  by_cases h4 : 4 < ps.length
  · rw [if_pos h4] at h; cases h
  · rw [if_neg h4] at h
    refine ⟨by omega, fun i hi => pck_bound h _ ?_⟩
    rw [List.getD_eq_getElem?_getD, List.getElem?_eq_getElem hi]; exact List.getElem_mem hi
theorem pck_range {t : Nat} {last : Int} {ps : List Int} {i : Nat} (h : i < ps.length) (hx : ps.getD i 0 < 0 ∨ (t : Int) < ps.getD i 0) : pck t last (ps.drop i) = 6 := by
  rw [drop_int h, pck, if_pos hx]
theorem pck_form {t : Nat} {last : Int} {ps : List Int} {i : Nat} (h : i < ps.length) (hx : ¬ (ps.getD i 0 < 0 ∨ (t : Int) < ps.getD i 0)) (hl : ps.getD i 0 ≤ last) : pck t last (ps.drop i) = 3 := by
  rw [drop_int h, pck, if_neg hx, if_pos hl]
theorem pck_step {t : Nat} {last : Int} {ps : List Int} {i : Nat} (h : i < ps.length) (hx : ¬ (ps.getD i 0 < 0 ∨ (t : Int) < ps.getD i 0)) (hl : ¬ ps.getD i 0 ≤ last) : pck t last (ps.drop i) = pck t (ps.getD i 0) (ps.drop (i + 1)) := by
  rw [drop_int h, pck, if_neg hx, if_neg hl]
theorem pck_end {t : Nat} {last : Int} {ps : List Int} {i : Nat} (h : i = ps.length) : pck t last (ps.drop i) = 0 := by
  rw [h, List.drop_length, pck]
def lastP (ps : List Int) (i : Nat) : Int := if i = 0 then -1 else ps.getD (i - 1) 0
theorem last_yes {ps : List Int} {i : Nat} (h : (decide ((0 : Int) < (i : Int)) && decide (ps.getD i 0 ≤ ps.getD (i - 1) 0)) = true) : ps.getD i 0 ≤ lastP ps i := by
  rw [Bool.and_eq_true, decide_eq_true_eq, decide_eq_true_eq] at h
  rw [lastP, if_neg (by omega)]; exact h.2
theorem last_no {ps : List Int} {i t : Nat} (hx : ¬ (ps.getD i 0 < 0 ∨ (t : Int) < ps.getD i 0)) (h : (decide ((0 : Int) < (i : Int)) && decide (ps.getD i 0 ≤ ps.getD (i - 1) 0)) = false) : ¬ ps.getD i 0 ≤ lastP ps i := by
  by_cases e : i = 0
  · rw [lastP, if_pos e]; omega
  · rw [lastP, if_neg e]
    rw [decide_eq_true (by omega), Bool.true_and, decide_eq_false_iff_not] at h
    exact h
def insU (us : List (List Nat)) (n : Int) : List (List Nat) := if n = 0 then us.set 0 (7 :: us.getD 0 []) else us.set (n.toNat - 1) (us.getD (n.toNat - 1) [] ++ [7])
theorem insU_len (us : List (List Nat)) (n : Int) : (insU us n).length = us.length := by unfold insU; split <;> simp
theorem insU_zero {us : List (List Nat)} {n : Int} (h : n = 0) : insU us n = us.set 0 (7 :: us.getD 0 []) := if_pos h
theorem insU_more {us : List (List Nat)} {n : Int} {k : Nat} (h : n ≠ 0) (hk : n = (k : Int)) : insU us n = us.set (k - 1) (us.getD (k - 1) [] ++ [7]) := by
  subst hk; rw [insU, if_neg h]; rfl
theorem psk_word : ∀ b ∈ ([112, 115, 107] : List Nat), asp b = 0 := by decide
theorem toks_head (w : List Nat) : toks ([112, 115, 107, 32] ++ w) = 7 :: toks w := by
  have h : fldGo [] ([112, 115, 107] ++ (32 :: w)) = [112, 115, 107] :: fldGo [] w := by
    rw [fld_app [112, 115, 107] [] (32 :: w) psk_word]
    simp [fldGo, asp]
  unfold toks fieldsL
  rw [show ([112, 115, 107, 32] ++ w : List Nat) = [112, 115, 107] ++ (32 :: w) from rfl, h, List.flatMap_cons]
  rfl
theorem fld_tail : ∀ (w cur : List Nat), fldGo cur (w ++ [32, 112, 115, 107]) = fldGo cur w ++ [[112, 115, 107]]
  | [], cur => by
    by_cases h : cur = [] <;> simp [fldGo, asp, h]
  | b :: w, cur => by
    rw [List.cons_append, fldGo, fldGo]
    by_cases h : asp b = 0
    · rw [if_pos h, if_pos h]
      exact fld_tail w (cur ++ [b])
    · rw [if_neg h, if_neg h, fld_tail w []]
      split <;> rfl
theorem toks_tail (w : List Nat) : toks (w ++ [32, 112, 115, 107]) = toks w ++ [7] := by
  unfold toks fieldsL
  rw [fld_tail, List.flatMap_append]
  rfl
theorem map_drop_set {L : List (List Nat)} {j : Nat} {w : List Nat} (f : List Nat → List Nat) (h : 2 ≤ j) : ((L.set j w).drop 2).map f = ((L.drop 2).map f).set (j - 2) (f w) := by
  rw [List.drop_set, if_neg (by omega), List.map_set]
theorem drop2_at {L : List (List Nat)} {j : Nat} (f : List Nat → List Nat) (h : j + 2 < L.length) : ((L.drop 2).map f).getD j [] = f (L.getD (j + 2) []) := by
  have h2 : j < (L.drop 2).length := by rw [List.length_drop]; omega
  rw [List.getD_eq_getElem?_getD, List.getElem?_map, List.getElem?_drop, Nat.add_comm 2 j, List.getD_eq_getElem?_getD, List.getElem?_eq_getElem h]
  rfl
theorem insT_insU {L : List (List Nat)} {n : Int} (h3 : 3 ≤ L.length) (h0 : 0 ≤ n) (hn : n ≤ ((L.length - 2 : Nat) : Int)) :
    ((insT L n).drop 2).map toks = insU ((L.drop 2).map toks) n ∧ (insT L n).getD 0 [] = L.getD 0 [] ∧ (insT L n).getD 1 [] = L.getD 1 [] := by
  have other : ∀ {j k : Nat} {w : List Nat}, j ≠ k → (L.set j w).getD k [] = L.getD k [] := fun {j k w} hj => by
    rw [List.getD_eq_getElem?_getD, List.getElem?_set_ne hj, ← List.getD_eq_getElem?_getD]
  by_cases e : n = 0
  · rw [insT_zero e, insU_zero e]
    refine ⟨?_, other (by omega), other (by omega)⟩
    rw [map_drop_set toks (Nat.le_refl 2), toks_head, drop2_at toks (by omega)]
  · obtain ⟨k, rfl⟩ : ∃ k : Nat, n = (k : Int) := ⟨n.toNat, by omega⟩
    rw [insT_more e rfl, insU_more e rfl]
    refine ⟨?_, other (by omega), other (by omega)⟩
    rw [map_drop_set toks (by omega), toks_tail, show 1 + k - 2 = k - 1 by omega, drop2_at toks (by omega), show k - 1 + 2 = 1 + k by omega]
theorem pfold_rows : ∀ (ps : List Int) (L : List (List Nat)) (last : Int), 3 ≤ L.length → (pfold L last ps).1 = 0 →
    ((pfold L last ps).2.drop 2).map toks = ps.foldl insU ((L.drop 2).map toks) ∧ (pfold L last ps).2.getD 0 [] = L.getD 0 [] ∧ (pfold L last ps).2.getD 1 [] = L.getD 1 []
  | [], L, _, _, _ => ⟨rfl, rfl, rfl⟩
  | n :: r, L, last, h3, h => by
    rw [pfold] at h ⊢
    by_cases h1 : n < 0 ∨ ((L.length - 2 : Nat) : Int) < n
    · rw [if_pos h1] at h; cases h
    · rw [if_neg h1] at h ⊢
      by_cases h2 : n ≤ last
      · rw [if_pos h2] at h; cases h
      · rw [if_neg h2] at h ⊢
        obtain ⟨a1, a2, a3⟩ := insT_insU (L := L) (n := n) h3 (by omega) (by omega)
        obtain ⟨b1, b2, b3⟩ := pfold_rows r (insT L n) n (by rw [insT_len]; exact h3) h
        rw [List.foldl_cons, b1, b2, b3, a1, a2, a3]
        exact ⟨rfl, rfl, rfl⟩
def bU (n : List Nat) : List (List Nat) := ((pbase n).drop 2).map toks
def bQ (n : List Nat) (i : Nat) : List Nat := toks ((pbase n).getD i [])
theorem with_rows {n : List Nat} {ps : List Int} (h : (pwith n ps).1 = 0) : wt n ps = ps.foldl insU (bU n) ∧ wq n ps 0 = bQ n 0 ∧ wq n ps 1 = bQ n 1 := by
  obtain ⟨h0, h4, _⟩ := pwith_in h
  obtain ⟨hb1, _⟩ := pbase_ok h0
  have e : pwith n ps = pfold (pbase n) (-1) ps := by rw [pwith, if_neg h0, if_neg (by omega)]
  rw [e] at h
  obtain ⟨a1, a2, a3⟩ := pfold_rows ps (pbase n) (-1) (by omega) h
  refine ⟨by unfold wt bU; rw [e]; exact a1, by unfold wq bQ; rw [e, a2], by unfold wq bQ; rw [e, a3]⟩
theorem bU_len {n : List Nat} (h : ptext n ≠ []) : (bU n).length = (pbase n).length - 2 ∧ 2 ≤ (bU n).length ∧ (bU n).length ≤ 3 ∧ ∀ q ∈ bU n, q.length ≤ 4 := by
  rcases ptext_in h with rfl | rfl | rfl | rfl | rfl | rfl | rfl <;> decide +kernel
theorem foldU_len (ps : List Int) : ∀ us : List (List Nat), (ps.foldl insU us).length = us.length := by
  induction ps with
  | nil => intro us; rfl
  | cons n r ih => intro us; rw [List.foldl_cons, ih, insU_len]
theorem fold_step {us : List (List Nat)} {ps : List Int} {i : Nat} (h : i < ps.length) : (ps.take (i + 1)).foldl insU us = insU ((ps.take i).foldl insU us) (ps.getD i 0) := by
  rw [List.take_add_one, List.getElem?_eq_getElem h, List.foldl_append, List.getD_eq_getElem?_getD, List.getElem?_eq_getElem h]; rfl
theorem insU_row {us : List (List Nat)} {n : Int} {k : Nat} (h : ∀ q ∈ us, q.length ≤ k) : ∀ q ∈ insU us n, q.length ≤ k + 1 := by
  have at_ : ∀ j, (us.getD j []).length ≤ k := fun j => by
    by_cases hj : j < us.length
    · rw [List.getD_eq_getElem?_getD, List.getElem?_eq_getElem hj]; exact h _ (List.getElem_mem hj)
    · rw [List.getD_eq_getElem?_getD, List.getElem?_eq_none (by omega)]; exact Nat.zero_le _
  intro q hq
  unfold insU at hq
  split at hq
  · rcases List.mem_or_eq_of_mem_set hq with h1 | rfl
    · have := h q h1; omega
    · have := at_ 0; simp only [List.length_cons]; omega
  · rcases List.mem_or_eq_of_mem_set hq with h1 | rfl
    · have := h q h1; omega
    · have := at_ (n.toNat - 1); simp only [List.length_append, List.length_cons, List.length_nil]; omega
end Go.Proofs.YthljakcegoohlabGreatDoor
namespace Go.Proofs.YthljakcegoohlabGreatDoor
open Go Go.RowKit
def hasP (l p : List Nat) : Bool := decide ((p.length : Int) ≤ l.length) && decide (l.take p.length = p)
def cutP (l p : List Nat) : List Nat := if hasP l p = true then l.drop p.length else l
def hasZ (l p : List Nat) : Bool := decide ((p.length : Int) ≤ l.length) && decide (l.drop (l.length - p.length) = p)
def cutZ (l p : List Nat) : List Nat := if hasZ l p = true then l.take (l.length - p.length) else l
theorem hasP_len {l p : List Nat} (h : hasP l p = true) : p.length ≤ l.length ∧ l.take p.length = p := by
  simp only [hasP, Bool.and_eq_true, decide_eq_true_eq] at h
  exact ⟨by omega, h.2⟩
theorem hasZ_len {l p : List Nat} (h : hasZ l p = true) : p.length ≤ l.length ∧ l.drop (l.length - p.length) = p := by
  simp only [hasZ, Bool.and_eq_true, decide_eq_true_eq] at h
  exact ⟨by omega, h.2⟩
theorem cutP_len (l p : List Nat) : (cutP l p).length ≤ l.length := by unfold cutP; split <;> simp
theorem cutP_mem {l p : List Nat} {b : Nat} (h : b ∈ cutP l p) : b ∈ l := by
  unfold cutP at h
  split at h
  · exact List.mem_of_mem_drop h
  · exact h
theorem bad1_cut (n : List Nat) : bad1 n = (!(hasP n hdN) || !(hasZ (cutP n hdN) tlN)) := by
  have e6 : hdN.length = 6 := rfl
  have e25 : tlN.length = 25 := rfl
  cases h : hasP n hdN with
  | false =>
    simp only [hasP, Bool.and_eq_false_iff, decide_eq_false_iff_not, e6] at h
    rcases h with h | h
    · have : decide ((n.length : Int) < 6) = true := decide_eq_true (by omega)
      rw [bad1, this]; simp
    · have : decide (n.take 6 ≠ hdN) = true := decide_eq_true h
      rw [bad1, this]; simp
  | true =>
    obtain ⟨h1, h2⟩ := hasP_len h
    rw [e6] at h1 h2
    have c : cutP n hdN = n.drop 6 := by rw [cutP, if_pos h]; rfl
    have q1 : decide ((n.length : Int) < 6) = false := decide_eq_false (by omega)
    have q2 : decide (n.take 6 ≠ hdN) = false := decide_eq_false (fun x => x h2)
    rw [bad1, q1, q2, c, hasZ, e25]
    have l1 : (n.drop 6).length = n.length - 6 := List.length_drop
    by_cases h31 : n.length < 31
    · have q3 : decide ((n.length : Int) < 31) = true := decide_eq_true (by omega)
      have q4 : decide (((25 : Nat) : Int) ≤ ((n.drop 6).length : Int)) = false := decide_eq_false (by omega)
      rw [q3, q4]; rfl
    · have q3 : decide ((n.length : Int) < 31) = false := decide_eq_false (by omega)
      have q4 : decide (((25 : Nat) : Int) ≤ ((n.drop 6).length : Int)) = true := decide_eq_true (by omega)
      have e : (n.drop 6).drop ((n.drop 6).length - 25) = n.drop (n.length - 25) := by
        rw [List.drop_drop, l1]; congr 1; omega
      rw [q3, q4, e]
      by_cases ht : n.drop (n.length - 25) = tlN
      · rw [decide_eq_true ht, decide_eq_false (fun x => x ht)]; rfl
      · rw [decide_eq_false ht, decide_eq_true ht]; rfl
theorem mid_cut {n : List Nat} (h : bad1 n = false) : cutZ (cutP n hdN) tlN = midN n := by
  rw [bad1_cut] at h
  simp only [Bool.or_eq_false_iff, Bool.not_eq_false'] at h
  rw [cutZ, if_pos h.2, cutP, if_pos h.1, midN, show hdN.length = 6 from rfl, show tlN.length = 25 from rfl, List.length_drop, show n.length - 6 - 25 = n.length - 25 - 6 by omega]
end Go.Proofs.YthljakcegoohlabGreatDoor
namespace Go.Proofs.YthljakcegoohlabGreatDoor
open Go Go.RowKit
theorem Fx.wide {P : Program} {G G' l0 : Mem} {f : FuncId} {args : Array Value} {S : Value → Mem → Mem → Prop} (h : Fx P G l0 f args S) (hG : ∀ x ∈ G, x ∈ G') : Fx P G' l0 f args S := fun w hw hi hn hd => h w (fun x hx => hw x (hG x hx)) hi hn fun x hx => hd x (hG x hx)
abbrev iis (q : List Nat) : List Value := q.map fun x : Nat => ii x
theorem iis_one (q : List Nat) : ∀ u ∈ iis q, u.oneCell' = true := fun u hu => by
  obtain ⟨n, _, rfl⟩ := List.mem_map.1 hu; rfl
abbrev slv (r n : Nat) : Value := .slice (some ⟨r, 0, none⟩) n n
theorem own_lit (ti : TypeId) (r : Nat) (q : List Nat) (h : q.length ≤ 100) : OwnS ti 1 (slv r q.length) q.length (iis q) (some (⟨r, (iis q).toArray, ti⟩ : Blk)).toList :=
  .inr ⟨r, q.length, (iis q).toArray, rfl, rfl, Nat.le_refl _, by simp only [maxLen]; omega, by simp, by simp, by rw [Nat.mul_one]; exact List.take_of_length_le (by simp)⟩
def ox (o0 o1 o2 : Option Blk) (i : Nat) : Option Blk := if i = 0 then o0 else if i = 1 then o1 else if i = 2 then o2 else none
def RowsIs (ti : TypeId) (TF : Nat → Value) (us : List (List Nat)) (o0 o1 o2 : Option Blk) : Prop := ∀ i, i < us.length → OwnS ti 1 (TF i) (us.getD i []).length (iis (us.getD i [])) (ox o0 o1 o2 i).toList
def BaseIs (ti tr : TypeId) (l : List Nat) (late : Bool) (q0 q1 : List Nat) (us : List (List Nat)) (v : Value) (os : List (Option Blk)) : Prop :=
  ∃ va vb TF oa ob o0 o1 o2 rT, v = .agg (patC l late nilS va vb (slv rT us.length)) ∧ os = [oa, ob, o0, o1, o2, some ⟨rT, arrv us.length TF, tr⟩] ∧ OwnS ti 1 va q0.length (iis q0) oa.toList ∧ OwnS ti 1 vb q1.length (iis q1) ob.toList ∧ RowsIs ti TF us o0 o1 o2
theorem base_two {ti tr : TypeId} {l : List Nat} {late : Bool} {q0 q1 : List Nat} {va vb : Value} {oa ob : Option Blk} {r0 r1 rT : Nat} (a b : List Nat) (hA : OwnS ti 1 va q0.length (iis q0) oa.toList) (hB : OwnS ti 1 vb q1.length (iis q1) ob.toList) (ha : a.length ≤ 100) (hb : b.length ≤ 100) :
    BaseIs ti tr l late q0 q1 [a, b] (.agg (patC l late nilS va vb (slv rT 2))) [oa, ob, some ⟨r0, (iis a).toArray, ti⟩, some ⟨r1, (iis b).toArray, ti⟩, none, some ⟨rT, #[slv r0 a.length, slv r1 b.length], tr⟩] :=
  ⟨va, vb, fun i => if i = 0 then slv r0 a.length else slv r1 b.length, oa, ob, _, _, none, rT, rfl, rfl, hA, hB, fun i hi => by
    match i, hi with
    | 0, _ => exact own_lit ti r0 a ha
    | 1, _ => exact own_lit ti r1 b hb
    | i + 2, hi => exact absurd hi (by simp)⟩
theorem base_three {ti tr : TypeId} {l : List Nat} {late : Bool} {q0 q1 : List Nat} {va vb : Value} {oa ob : Option Blk} {r0 r1 r2 rT : Nat} (a b c : List Nat) (hA : OwnS ti 1 va q0.length (iis q0) oa.toList) (hB : OwnS ti 1 vb q1.length (iis q1) ob.toList) (ha : a.length ≤ 100) (hb : b.length ≤ 100) (hc : c.length ≤ 100) :
    BaseIs ti tr l late q0 q1 [a, b, c] (.agg (patC l late nilS va vb (slv rT 3))) [oa, ob, some ⟨r0, (iis a).toArray, ti⟩, some ⟨r1, (iis b).toArray, ti⟩, some ⟨r2, (iis c).toArray, ti⟩, some ⟨rT, #[slv r0 a.length, slv r1 b.length, slv r2 c.length], tr⟩] :=
  ⟨va, vb, fun i => if i = 0 then slv r0 a.length else if i = 1 then slv r1 b.length else slv r2 c.length, oa, ob, _, _, _, rT, rfl, rfl, hA, hB, fun i hi => by
    match i, hi with
    | 0, _ => exact own_lit ti r0 a ha
    | 1, _ => exact own_lit ti r1 b hb
    | 2, _ => exact own_lit ti r2 c hc
    | i + 3, hi => exact absurd hi (by simp)⟩
theorem tab_NN : bQ nNN 0 = [] ∧ bQ nNN 1 = [] ∧ bU nNN = [[1], [1, 3]] := by decide +kernel
theorem tab_NK : bQ nNK 0 = [] ∧ bQ nNK 1 = [2] ∧ bU nNK = [[1, 4], [1, 3]] := by decide +kernel
theorem tab_XX : bQ nXX 0 = [] ∧ bQ nXX 1 = [] ∧ bU nXX = [[1], [1, 3, 2, 4], [2, 5]] := by decide +kernel
theorem tab_IK : bQ nIK 0 = [] ∧ bQ nIK 1 = [2] ∧ bU nIK = [[1, 4, 2, 6], [1, 3, 5]] := by decide +kernel
theorem tab_XK : bQ nXK 0 = [] ∧ bQ nXK 1 = [2] ∧ bU nXK = [[1, 4], [1, 3], [2, 5]] := by decide +kernel
theorem tab_KK : bQ nKK 0 = [2] ∧ bQ nKK 1 = [2] ∧ bU nKK = [[1, 4, 6], [1, 3, 5]] := by decide +kernel
theorem tab_XF : bQ nXF 0 = [1] ∧ bQ nXF 1 = [] ∧ bU nXF = [[1, 3, 2, 4], [2, 5]] := by decide +kernel
theorem ptext_no {n : List Nat} (h0 : n ≠ nNN) (h1 : n ≠ nNK) (h2 : n ≠ nXX) (h3 : n ≠ nIK) (h4 : n ≠ nXK) (h5 : n ≠ nKK) (h6 : n ≠ nXF) : ptext n = [] := by
  cases h : ptext n with
  | nil => rfl
  | cons a b =>
    rcases ptext_in (n := n) (by rw [h]; simp) with e | e | e | e | e | e | e
    · exact absurd e h0
    · exact absurd e h1
    · exact absurd e h2
    · exact absurd e h3
    · exact absurd e h4
    · exact absurd e h5
    · exact absurd e h6
theorem bQ_len {n : List Nat} (h : ptext n ≠ []) : (bQ n 0).length ≤ 1 ∧ (bQ n 1).length ≤ 1 := by
  rcases ptext_in h with rfl | rfl | rfl | rfl | rfl | rfl | rfl
  · rw [tab_NN.1, tab_NN.2.1]; decide
  · rw [tab_NK.1, tab_NK.2.1]; decide
  · rw [tab_XX.1, tab_XX.2.1]; decide
  · rw [tab_IK.1, tab_IK.2.1]; decide
  · rw [tab_XK.1, tab_XK.2.1]; decide
  · rw [tab_KK.1, tab_KK.2.1]; decide
  · rw [tab_XF.1, tab_XF.2.1]; decide
theorem own_fresh (m : Mem) (ti : TypeId) (q : List Nat) (h : q.length ≤ 1000) : ∃ v oz, OwnS ti 1 v q.length (iis q) (Option.toList oz) ∧ FreshM m (Option.toList oz) := by
  obtain ⟨r, hr⟩ := fresh_of m
  refine ⟨slv r q.length, some ⟨r, (iis q).toArray, ti⟩, .inr ⟨r, q.length, (iis q).toArray, rfl, rfl, Nat.le_refl _, by simp only [maxLen]; omega, by simp, by simp, by rw [Nat.mul_one]; exact List.take_of_length_le (by simp)⟩, by simp, fun x hx y hy => ?_⟩
  simp at hx; subst hx; exact hr y hy
theorem owns_fresh (ti : TypeId) : ∀ (qs : List (List Nat)) (m : Mem), (∀ q ∈ qs, q.length ≤ 1000) → ∃ (vs : List Value) (os : List (Option Blk)), vs.length = qs.length ∧ os.length = qs.length ∧ (∀ i, i < qs.length → OwnS ti 1 (vs.getD i undef) (qs.getD i []).length (iis (qs.getD i [])) (os.getD i none).toList) ∧ FreshM m (flatO os)
  | [], m, _ => ⟨[], [], rfl, rfl, fun i hi => absurd hi (by simp), fresh_nil m⟩
  | q :: qs, m, h => by
    obtain ⟨v, oz, h1, h2⟩ := own_fresh m ti q (h q List.mem_cons_self)
    obtain ⟨vs, os, h3, h4, h5, h6⟩ := owns_fresh ti qs (m ++ oz.toList) (fun x hx => h x (List.mem_cons_of_mem _ hx))
    refine ⟨v :: vs, oz :: os, by simp [h3], by simp [h4], fun i hi => ?_, by rw [flatO]; exact fresh_cat h2 h6⟩
    match i with
    | 0 => exact h1
    | i + 1 => exact h5 i (by simpa using hi)
theorem base_room (ti tr : TypeId) (l : List Nat) (late : Bool) (q0 q1 : List Nat) (us : List (List Nat)) (u : Value) (h0 : q0.length ≤ 100) (h1 : q1.length ≤ 100) (hu : ∀ q ∈ us, q.length ≤ 100) (hl : us.length = 2 ∨ us.length = 3) (m : Mem) : ∃ v os, (∃ v', v = Value.tuple #[v', u] ∧ BaseIs ti tr l late q0 q1 us v' os) ∧ FreshM m (flatO os) := by
  obtain ⟨vs, os, g1, g2, g3, g4⟩ := owns_fresh ti (q0 :: q1 :: us) m (fun q hq => by
    rcases List.mem_cons.1 hq with rfl | hq
    · omega
    rcases List.mem_cons.1 hq with rfl | hq
    · omega
    · have := hu q hq; omega)
  obtain ⟨rT, hrT⟩ := fresh_of (m ++ flatO os)
  have fT : ∀ c : Array Value, FreshM (m ++ flatO os) [(⟨rT, c, tr⟩ : Blk)] := fun c => ⟨by simp, fun x hx y hy => by simp at hx; subst hx; exact hrT y hy⟩
  have hA := g3 0 (by simp)
  have hB := g3 1 (by simp)
  rcases hl with hl | hl
  · match us, hl, os, g2 with
    | [a, b], _, [oa, ob, o0, o1], _ =>
      refine ⟨_, [oa, ob, o0, o1, none, some ⟨rT, arrv 2 (fun i => vs.getD (i + 2) undef), tr⟩], ⟨_, rfl, vs.getD 0 undef, vs.getD 1 undef, fun i => vs.getD (i + 2) undef, oa, ob, o0, o1, none, rT, rfl, rfl, hA, hB, fun i hi => ?_⟩, ?_⟩
      · match i, hi with
        | 0, _ => exact g3 2 (by simp)
        | 1, _ => exact g3 3 (by simp)
        | i + 2, hi => exact absurd hi (by simp)
      · have e : flatO [oa, ob, o0, o1, none, some (⟨rT, arrv 2 (fun i => vs.getD (i + 2) undef), tr⟩ : Blk)] = flatO [oa, ob, o0, o1] ++ [(⟨rT, arrv 2 (fun i => vs.getD (i + 2) undef), tr⟩ : Blk)] := by simp [flatO]
        rw [e]; exact fresh_cat g4 (fT _)
  · match us, hl, os, g2 with
    | [a, b, c], _, [oa, ob, o0, o1, o2], _ =>
      refine ⟨_, [oa, ob, o0, o1, o2, some ⟨rT, arrv 3 (fun i => vs.getD (i + 2) undef), tr⟩], ⟨_, rfl, vs.getD 0 undef, vs.getD 1 undef, fun i => vs.getD (i + 2) undef, oa, ob, o0, o1, o2, rT, rfl, rfl, hA, hB, fun i hi => ?_⟩, ?_⟩
      · match i, hi with
        | 0, _ => exact g3 2 (by simp)
        | 1, _ => exact g3 3 (by simp)
        | 2, _ => exact g3 4 (by simp)
        | i + 3, hi => exact absurd hi (by simp)
      · have e : flatO [oa, ob, o0, o1, o2, some (⟨rT, arrv 3 (fun i => vs.getD (i + 2) undef), tr⟩ : Blk)] = flatO [oa, ob, o0, o1, o2] ++ [(⟨rT, arrv 3 (fun i => vs.getD (i + 2) undef), tr⟩ : Blk)] := by simp [flatO]
        rw [e]; exact fresh_cat g4 (fT _)
def insR (n : Nat) (q : List Nat) : List Nat := if n = 0 then 7 :: q else q ++ [7]
theorem insR_len (n : Nat) (q : List Nat) : (insR n q).length = q.length + 1 := by unfold insR; split <;> simp
theorem insU_insR {us : List (List Nat)} {n : Nat} : insU us (n : Int) = us.set (n - 1) (insR n (us.getD (n - 1) [])) := by
  by_cases h : n = 0
  · subst h; exact insU_zero (n := ((0 : Nat) : Int)) rfl
  · rw [insU_more (k := n) (by omega) rfl, insR, if_neg h]
theorem rows_at {us : List (List Nat)} {j i : Nat} {w : List Nat} (hi : i < us.length) : (us.set j w).getD i [] = if i = j then w else us.getD i [] := by
  rw [List.getD_eq_getElem?_getD, List.getElem?_set]
  by_cases e : j = i
  · subst e; rw [if_pos rfl, if_pos hi, if_pos rfl]; rfl
  · rw [if_neg e, if_neg (fun x => e x.symm), ← List.getD_eq_getElem?_getD]
theorem rows_set {ti : TypeId} {TF : Nat → Value} {us : List (List Nat)} {o0 o1 o2 oz : Option Blk} {j : Nat} {w : Value} {q : List Nat} (h : RowsIs ti TF us o0 o1 o2) (hj : j < 3) (ho : OwnS ti 1 w q.length (iis q) oz.toList) : RowsIs ti (updv TF j w) (us.set j q) (if j = 0 then oz else o0) (if j = 1 then oz else o1) (if j = 2 then oz else o2) := fun i hi => by
  rw [List.length_set] at hi
  rw [rows_at hi]
  by_cases e : i = j
  · subst e
    rw [if_pos rfl, updv, if_pos rfl]
    have : ox (if i = 0 then oz else o0) (if i = 1 then oz else o1) (if i = 2 then oz else o2) i = oz := by
      unfold ox
      match i, hj with
      | 0, _ => rfl
      | 1, _ => rfl
      | 2, _ => rfl
    rw [this]; exact ho
  · rw [if_neg e, updv, if_neg e]
    have e2 : ox (if j = 0 then oz else o0) (if j = 1 then oz else o1) (if j = 2 then oz else o2) i = ox o0 o1 o2 i := by
      unfold ox
      by_cases i0 : i = 0
      · rw [if_pos i0, if_pos i0, if_neg (by omega)]
      · rw [if_neg i0, if_neg i0]
        by_cases i1 : i = 1
        · rw [if_pos i1, if_pos i1, if_neg (by omega)]
        · rw [if_neg i1, if_neg i1]
          by_cases i2 : i = 2
          · rw [if_pos i2, if_pos i2, if_neg (by omega)]
          · rw [if_neg i2, if_neg i2]
    rw [e2]; exact h i hi
theorem rowN_le {us : List (List Nat)} {k : Nat} (h : ∀ q ∈ us, q.length ≤ k) (j : Nat) : (us.getD j []).length ≤ k := by
  by_cases hj : j < us.length
  · rw [List.getD_eq_getElem?_getD, List.getElem?_eq_getElem hj]; exact h _ (List.getElem_mem hj)
  · rw [List.getD_eq_getElem?_getD, List.getElem?_eq_none (by omega)]; exact Nat.zero_le _
def PatIsI (base : List Nat) (late : Bool) (ps : List Int) (q0 q1 : List Nat) (us : List (List Nat)) (w : Value) (B : Mem) : Prop := ∃ vp, Shows B 1 vp ps.length (ps.map iv) ∧ PatIs base late vp q0 q1 us w B
theorem pat_roomI (base : List Nat) (late : Bool) (ps : List Int) (q0 q1 : List Nat) (us : List (List Nat)) (m : Mem) : ∃ v nw, (∃ w', v = Value.tuple #[w', ii 0] ∧ PatIsI base late ps q0 q1 us w' nw) ∧ FreshM m nw := by
  obtain ⟨vp, n0, h0, f0⟩ := fresh_vals m (ps.map iv)
  rw [List.length_map] at h0
  obtain ⟨w, n1, h1, f1⟩ := pat_fresh base late vp q0 q1 us (m ++ n0)
  exact ⟨_, n0 ++ n1, ⟨w, rfl, vp, h0.mono fun x hx => List.mem_append_left _ hx, pat_mono h1 fun x hx => List.mem_append_right _ hx⟩, fresh_cat f0 f1⟩
theorem pat_two {base : List Nat} {late : Bool} {ds q0 q1 : List Nat} {us : List (List Nat)} {w : Value} {B : Mem} (h : PatIsI base late (ci ds) q0 q1 us w B) : PatIs2 base late ds q0 q1 us w B := by
  obtain ⟨vp, h1, h2⟩ := h
  exact ⟨vp, by rw [List.length_map] at h1; exact h1, h2⟩
theorem rows_shows {ti : TypeId} {TF : Nat → Value} {us : List (List Nat)} {o0 o1 o2 : Option Blk} {B : Mem} (h : RowsIs ti TF us o0 o1 o2) (hB : ∀ i, ∀ x ∈ (ox o0 o1 o2 i).toList, x ∈ B) : ShowsLI B ((List.range us.length).map TF) (us.map ci) := by
  refine ⟨by simp, fun i hi => ?_⟩
  have hi : i < us.length := by simpa using hi
  have h1 := (h i hi).shows.mono (hB i)
  have e1 : ((List.range us.length).map TF).getD i undef = TF i := by simp [List.getD_eq_getElem?_getD, hi]
  have e2 : (us.map ci).getD i [] = ci (us.getD i []) := by simp [List.getD_eq_getElem?_getD, hi]
  rw [e1, e2, ci_ii, show (ci (us.getD i [])).length = (us.getD i []).length by simp [ci]]
  exact h1
theorem tblk_shows {rT n : Nat} {TF : Nat → Value} {tr : TypeId} {B : Mem} (h : (⟨rT, arrv n TF, tr⟩ : Blk) ∈ B) : Shows B 1 (slv rT n) n ((List.range n).map TF) := by
  have := (shows_new (r := rT) (z := 1) (len := n) (arrv n TF) tr (by rw [arrv_size, Nat.mul_one])).mono (B' := B) fun x hx => by simp at hx; subst hx; exact h
  exact this
theorem with_pat {ti tr : TypeId} {l : List Nat} {late : Bool} {ps : List Int} {q0 q1 : List Nat} {us : List (List Nat)} {vp va vb : Value} {op oa ob o0 o1 o2 : Option Blk} {TF : Nat → Value} {rT n : Nat} {e : TypeId} {B : Mem} (hp : OwnS e 1 vp ps.length (ps.map iv) op.toList) (hA : OwnS ti 1 va q0.length (iis q0) oa.toList) (hB : OwnS ti 1 vb q1.length (iis q1) ob.toList) (hR : RowsIs ti TF us o0 o1 o2) (hn : us.length = n)
    (hs : ∀ o ∈ [op, oa, ob, o0, o1, o2], ∀ x ∈ o.toList, x ∈ B) (hT : (⟨rT, arrv n TF, tr⟩ : Blk) ∈ B) : PatIsI l late ps q0 q1 us (.agg (patC l late vp va vb (slv rT n))) B := by
  subst hn
  refine ⟨vp, hp.shows.mono (hs op (by simp)), va, vb, slv rT us.length, (List.range us.length).map TF, rfl, by rw [ci_ii]; exact hA.shows.mono (hs oa (by simp)), by rw [ci_ii]; exact hB.shows.mono (hs ob (by simp)), tblk_shows hT, by simp, rows_shows hR fun i x hx => ?_⟩
  unfold ox at hx
  split at hx
  · exact hs o0 (by simp) x hx
  split at hx
  · exact hs o1 (by simp) x hx
  split at hx
  · exact hs o2 (by simp) x hx
  · simp at hx
end Go.Proofs.YthljakcegoohlabGreatDoor
namespace Go.Proofs.YthljakcegoohlabGreatDoor
open Go Go.RowKit
theorem in1 {x : Blk} {G : Mem} (h : x ∈ G) : ∀ z ∈ x :: G, z ∈ G := fun z hz => by
  rcases List.mem_cons.1 hz with rfl | hz
  · exact h
  · exact hz
theorem nin_ne : ¬ 9 = 0 := by decide
theorem onn_ne : ¬ 1 = 0 := by decide
theorem eleven_ne : ¬ 11 = 0 := by decide
theorem four_ne : ¬ 4 = 0 := by decide
theorem ten_ne : ¬ 10 = 0 := by decide
abbrev SVy (y : SY) : Value := SV y.1 y.2.1 y.2.2.1 y.2.2.2.1 y.2.2.2.2
abbrev ones (vp v0 v1 vt vk : Value) : Prop := vp.oneCell' = true ∧ v0.oneCell' = true ∧ v1.oneCell' = true ∧ vt.oneCell' = true ∧ vk.oneCell' = true
def letA (t : Nat) : Nat := if t = 3 then 1 else if t = 4 then 1 else 2
def letB (t : Nat) : Nat := if t = 3 then 1 else if t = 4 then 2 else if t = 5 then 1 else 2
def mineT (fi : Bool) (t : Nat) : Nat := if fi then letA t else letB t
def thirT (fi : Bool) (t : Nat) : Nat := if fi then letB t else letA t
theorem mine_last {fi : Bool} {t : Nat} (h3 : 3 ≤ t) (h6 : t ≤ 6) : decide (mineT fi t = 1) = !lastT fi t := by
  have : t = 3 ∨ t = 4 ∨ t = 5 ∨ t = 6 := by omega
  rcases this with rfl | rfl | rfl | rfl <;> cases fi <;> rfl
theorem thir_thr {fi : Bool} {t : Nat} (h3 : 3 ≤ t) (h6 : t ≤ 6) : decide (thirT fi t = 1) = !thrT fi t := by
  have : t = 3 ∨ t = 4 ∨ t = 5 ∨ t = 6 := by omega
  rcases this with rfl | rfl | rfl | rfl <;> cases fi <;> rfl
theorem sec_eq {fi : Bool} {ow : Nat → Nat} {r : RS} {t : Nat} (h3 : 3 ≤ t) (h6 : t ≤ 6) : (if mineT fi t = 1 then r.1 else ow) = secT fi ow r t := by
  have h := mine_last (fi := fi) h3 h6
  unfold secT
  cases hl : lastT fi t with
  | true => rw [hl] at h; rw [if_neg (of_decide_eq_false h), if_pos rfl]
  | false => rw [hl] at h; rw [if_pos (of_decide_eq_true h), if_neg (by decide)]
theorem has_eq {fi : Bool} {r : RS} {t : Nat} (h3 : 3 ≤ t) (h6 : t ≤ 6) : (if mineT fi t = 1 then r.2.1 else true) = hasT fi r t := by
  have h := mine_last (fi := fi) h3 h6
  unfold hasT
  cases hl : lastT fi t with
  | true => rw [hl] at h; rw [if_neg (of_decide_eq_false h), if_pos rfl]
  | false => rw [hl] at h; rw [if_pos (of_decide_eq_true h), if_neg (by decide)]
theorem pub_eq {fi : Bool} {r : RS} {t : Nat} (h3 : 3 ≤ t) (h6 : t ≤ 6) : (if thirT fi t = 1 then r.2.2.2.2.1 else r.2.2.1) = pubT fi r t := by
  have h := thir_thr (fi := fi) h3 h6
  unfold pubT
  cases hl : thrT fi t with
  | true => rw [hl] at h; rw [if_neg (of_decide_eq_false h), if_pos rfl]
  | false => rw [hl] at h; rw [if_pos (of_decide_eq_true h), if_neg (by decide)]
theorem saw_eq {fi : Bool} {r : RS} {t : Nat} (h3 : 3 ≤ t) (h6 : t ≤ 6) : (if thirT fi t = 1 then r.2.2.2.2.2 else r.2.2.2.1) = sawT fi r t := by
  have h := thir_thr (fi := fi) h3 h6
  unfold sawT
  cases hl : thrT fi t with
  | true => rw [hl] at h; rw [if_neg (of_decide_eq_false h), if_pos rfl]
  | false => rw [hl] at h; rw [if_pos (of_decide_eq_true h), if_neg (by decide)]
theorem both_psk_no {fi : Bool} {ow : Nat → Nat} {ps : List (Nat → Nat)} {y : SY} {r : RS} {us : Nat} (h : ps.length ≤ us) : bothT fi ow ps 7 (y, r, us) = (5, (y, r, us)) := (if_pos rfl).trans (if_pos h)
theorem both_psk {fi : Bool} {ow : Nat → Nat} {ps : List (Nat → Nat)} {y : SY} {r : RS} {us : Nat} (h : ¬ ps.length ≤ us) : bothT fi ow ps 7 (y, r, us) = (0, mixP y (ky (pskAt ps us)), r, us + 1) := (if_pos rfl).trans (if_neg h)
theorem both_none {fi : Bool} {ow : Nat → Nat} {ps : List (Nat → Nat)} {t : Nat} {y : SY} {r : RS} {us : Nat} (h7 : t ≠ 7) (h : (hasT fi r t && sawT fi r t) = false) : bothT fi ow ps t (y, r, us) = (5, (y, r, us)) := (if_neg h7).trans (if_pos h)
theorem both_zero {fi : Bool} {ow : Nat → Nat} {ps : List (Nat → Nat)} {t : Nat} {y : SY} {r : RS} {us : Nat} (h7 : t ≠ 7) (h : ¬ (hasT fi r t && sawT fi r t) = false) (hz : mulK (secT fi ow r t) (pubT fi r t) = 0) : bothT fi ow ps t (y, r, us) = (12, (y, r, us)) := (if_neg h7).trans ((if_neg h).trans (if_pos hz))
theorem both_ok {fi : Bool} {ow : Nat → Nat} {ps : List (Nat → Nat)} {t : Nat} {y : SY} {r : RS} {us : Nat} (h7 : t ≠ 7) (h : ¬ (hasT fi r t && sawT fi r t) = false) (hz : ¬ mulK (secT fi ow r t) (pubT fi r t) = 0) : bothT fi ow ps t (y, r, us) = (0, keyP y (ky (bt (mulK (secT fi ow r t) (pubT fi r t)))), r, us) := (if_neg h7).trans ((if_neg h).trans (if_neg hz))
theorem secT_lt {fi : Bool} {ow : Nat → Nat} {r : RS} {t : Nat} (ho : B32 ow) (hr : okR r) : B32 (secT fi ow r t) := by
  unfold secT; split
  · exact ho
  · exact hr.1
theorem pubT_lt {fi : Bool} {r : RS} {t : Nat} (hr : okR r) : B32 (pubT fi r t) := by
  unfold pubT; split
  · exact hr.2.1
  · exact hr.2.2
theorem bt_b (x : Nat) : B32 (bt x) := fun j _ => bt_lt x j
def okP (ps : List (Nat → Nat)) : Prop := (∀ p ∈ ps, B32 p) ∧ ps.length ≤ 9223372036854775807
theorem pskAt_lt {ps : List (Nat → Nat)} (h : okP ps) {i : Nat} (hi : i < ps.length) : B32 (pskAt ps i) := by
  rw [pskAt, List.getD_eq_getElem?_getD, List.getElem?_eq_getElem hi]; exact h.1 _ (List.getElem_mem hi)
theorem not_t {b : Bool} (h : (!b) = true) : b = false := by cases b <;> simp_all
theorem not_f {b : Bool} (h : (!b) = false) : ¬ b = false := by cases b <;> simp_all
theorem Fx.imp {P : Program} {G l0 : Mem} {f : FuncId} {args : Array Value} {S S' : Value → Mem → Mem → Prop} (h : Fx P G l0 f args S) (hi : ∀ v l1 nw, S v l1 nw → S' v l1 nw) : Fx P G l0 f args S' := fun w a b c d =>
  (h w a b c d).mono fun _ _ ⟨v, l1, nw, h1, h2, h3⟩ => ⟨v, l1, nw, h1, hi v l1 nw h2, h3⟩
theorem ky_get {f : Nat → Nat} {j : Nat} (h : j < 32) : (ky f).getD j 0 = f j := by
  simp [List.getD_eq_getElem?_getD, List.getElem?_range h]
theorem bytes_room (mk : Value → Value) (l : List Nat) (m : Mem) : ∃ v nw, (∃ v', v = mk v' ∧ Shows nw 1 v' l.length (l.map by8)) ∧ FreshM m nw := by
  obtain ⟨v, nw, h1, h2⟩ := fresh_vals m (l.map by8)
  rw [List.length_map] at h1
  exact ⟨mk v, nw, ⟨v, rfl, h1⟩, h2⟩
theorem tokW_e {fi : Bool} {ow : Nat → Nat} {ps : List (Nat → Nat)} {sc : Nat → Nat} {y : SY} {r : RS} {us : Nat} : tokW fi ow ps sc 1 (y, r, us) = (0, (freshP (npk ps) y (pubK sc), (sc, true, r.2.2), us), ky (pubK sc)) := if_pos rfl
theorem tokW_s {fi : Bool} {ow : Nat → Nat} {ps : List (Nat → Nat)} {sc : Nat → Nat} {y : SY} {r : RS} {us : Nat} {w : Nat × SY × List Nat} (h : sealP y (ky (pubK ow)) = w) : tokW fi ow ps sc 2 (y, r, us) = (w.1, (w.2.1, r, us), w.2.2) := by
  subst h
  exact (if_neg (by decide)).trans (if_pos rfl)
theorem tokW_x {fi : Bool} {ow : Nat → Nat} {ps : List (Nat → Nat)} {sc : Nat → Nat} {t : Nat} {s : SS} {w : Nat × SS} (h3 : 3 ≤ t) (h : bothT fi ow ps t s = w) : tokW fi ow ps sc t s = (w.1, w.2, []) := by
  subst h
  exact (if_neg (by omega)).trans (if_neg (by omega))
theorem tokR_e_no {fi : Bool} {ow : Nat → Nat} {ps : List (Nat → Nat)} {s : SS} {b : List Nat} (h : b.length < 32) : tokR fi ow ps 1 s b = (4, s, []) := (if_pos rfl).trans (if_pos h)
theorem tokR_e {fi : Bool} {ow : Nat → Nat} {ps : List (Nat → Nat)} {y : SY} {r : RS} {us : Nat} {b : List Nat} (h : ¬ b.length < 32) : tokR fi ow ps 1 (y, r, us) b = (0, (freshP (npk ps) y (fun j => b.getD j 0), (r.1, r.2.1, r.2.2.1, r.2.2.2.1, (fun j => b.getD j 0), true), us), b.drop 32) := (if_pos rfl).trans (if_neg h)
theorem tokR_s_no {fi : Bool} {ow : Nat → Nat} {ps : List (Nat → Nat)} {y : SY} {r : RS} {us : Nat} {b : List Nat} (h : b.length < keyN y) : tokR fi ow ps 2 (y, r, us) b = (4, (y, r, us), []) := (if_neg (by decide)).trans ((if_pos rfl).trans (if_pos h))
theorem tokR_s {fi : Bool} {ow : Nat → Nat} {ps : List (Nat → Nat)} {y : SY} {r : RS} {us : Nat} {b : List Nat} {w : Nat × SY × List Nat} (h : ¬ b.length < keyN y) (hw : openP y (b.take (keyN y)) = w) (h0 : w.1 = 0) : tokR fi ow ps 2 (y, r, us) b = (0, (w.2.1, (r.1, r.2.1, (fun j => w.2.2.getD j 0), true, r.2.2.2.2), us), b.drop (keyN y)) := by
  subst hw
  exact (if_neg (by decide)).trans ((if_pos rfl).trans ((if_neg h).trans (if_pos h0)))
theorem tokR_s_err {fi : Bool} {ow : Nat → Nat} {ps : List (Nat → Nat)} {y : SY} {r : RS} {us : Nat} {b : List Nat} {w : Nat × SY × List Nat} (h : ¬ b.length < keyN y) (hw : openP y (b.take (keyN y)) = w) (h0 : w.1 ≠ 0) : tokR fi ow ps 2 (y, r, us) b = (w.1, (w.2.1, r, us), []) := by
  subst hw
  exact (if_neg (by decide)).trans ((if_pos rfl).trans ((if_neg h).trans (if_neg h0)))
theorem tokR_x {fi : Bool} {ow : Nat → Nat} {ps : List (Nat → Nat)} {t : Nat} {s : SS} {b : List Nat} {w : Nat × SS} (h3 : 3 ≤ t) (h : bothT fi ow ps t s = w) : tokR fi ow ps t s b = (w.1, w.2, b) := by
  subst h
  exact (if_neg (by omega)).trans (if_neg (by omega))
theorem part_shows {G : Mem} {v : Value} {l : List Nat} (n : Nat) (h : Shows G 1 v l.length (l.map by8)) (hn : n ≤ l.length) : Shows G 1 (slPart 1 v n l.length) (l.drop n).length ((l.drop n).map by8) := by
  have h1 := h.part (i := n) (j := l.length) hn (Nat.le_refl _)
  rw [Nat.mul_one, Nat.mul_one] at h1
  have e : ((l.map by8).drop n).take (l.length - n) = (l.drop n).map by8 := by
    rw [List.map_drop]
    exact List.take_of_length_le (by simp)
  rw [e] at h1
  rw [List.length_drop]; exact h1
theorem head_shows {G : Mem} {v : Value} {l : List Nat} (n : Nat) (h : Shows G 1 v l.length (l.map by8)) (hn : n ≤ l.length) : Shows G 1 (slPart 1 v 0 n) (l.take n).length ((l.take n).map by8) := by
  have h1 := h.part (i := 0) (j := n) (Nat.zero_le _) hn
  rw [Nat.zero_mul, List.drop_zero, Nat.sub_zero, Nat.mul_one] at h1
  have e : (l.map by8).take n = (l.take n).map by8 := by rw [List.map_take]
  rw [e] at h1
  rw [List.length_take, Nat.min_eq_left hn]; exact h1
theorem key_cells {l : List Nat} (h : 32 ≤ l.length) : (((l.map by8).drop 0).take 32).toArray = arr .u8 32 (fun j => l.getD j 0) := by
  rw [List.drop_zero]
  apply Array.ext'
  apply List.ext_getElem
  · simp [arr]; omega
  · intro j h1 h2
    simp [arr] at h1 h2
    simp [arr, List.getD_eq_getElem?_getD, List.getElem?_eq_getElem (show j < l.length by omega)]
theorem key_cells2 {l : List Nat} (h : 32 ≤ l.length) : ((((l.take 32).map by8).drop 0).take 32).toArray = arr .u8 32 (fun j => l.getD j 0) := by
  rw [key_cells (by rw [List.length_take]; omega)]
  refine arr_congr fun j hj => ?_
  rw [List.getD_eq_getElem?_getD, List.getD_eq_getElem?_getD, List.getElem?_take, if_pos hj]
theorem keyN_t {kn : Nat} {y : SY} (h : kn = keyN y) (h1 : y.1 = true) : kn = 48 := by rw [h, keyN, h1]; rfl
theorem keyN_f {kn : Nat} {y : SY} (h : kn = keyN y) (h1 : y.1 = false) : kn = 32 := by rw [h, keyN, h1]; rfl
theorem tok_in {q : List Nat} (h : ∀ x ∈ q, 1 ≤ x ∧ x ≤ 7) {i : Nat} (hi : i < q.length) : 1 ≤ q.getD i 0 ∧ q.getD i 0 ≤ 7 := h _ (by rw [List.getD_eq_getElem?_getD, List.getElem?_eq_getElem hi]; exact List.getElem_mem hi)
theorem turnW_stop {fi : Bool} {ow : Nat → Nat} {ps : List (Nat → Nat)} {sc : Nat → Nat} {q : List Nat} {s s' : SS} {tx : List Nat} {e : Nat} (h : runW fi ow ps sc q s [] = (e, s', [])) (he : e ≠ 0) : turnW fi ow ps sc q s tx = (e, s', []) := by
  unfold turnW
  rw [h, if_neg he]
theorem turnW_fin {fi : Bool} {ow : Nat → Nat} {ps : List (Nat → Nat)} {sc : Nat → Nat} {q : List Nat} {s : SS} {y1 : SY} {r1 : RS} {u1 : Nat} {out tx : List Nat} {z : Nat × SY × List Nat} (h : runW fi ow ps sc q s [] = (0, (y1, r1, u1), out)) (hz : sealP y1 tx = z) : turnW fi ow ps sc q s tx = (z.1, (z.2.1, r1, u1), out ++ z.2.2) := by
  unfold turnW
  rw [h, if_pos rfl]
  subst hz; rfl
theorem turnR_stop {fi : Bool} {ow : Nat → Nat} {ps : List (Nat → Nat)} {q : List Nat} {s s' : SS} {b : List Nat} {e : Nat} (h : runR fi ow ps q s b = (e, s', [])) (he : e ≠ 0) : turnR fi ow ps q s b = (e, s', []) := by
  unfold turnR
  rw [h, if_neg he]
theorem turnR_fin {fi : Bool} {ow : Nat → Nat} {ps : List (Nat → Nat)} {q : List Nat} {s : SS} {y1 : SY} {r1 : RS} {u1 : Nat} {b b' : List Nat} {z : Nat × SY × List Nat} (h : runR fi ow ps q s b = (0, (y1, r1, u1), b')) (hz : openP y1 b' = z) : turnR fi ow ps q s b = (z.1, (z.2.1, r1, u1), z.2.2) := by
  unfold turnR
  rw [h, if_pos rfl]
  subst hz; rfl
theorem run_endW {fi : Bool} {ow : Nat → Nat} {ps : List (Nat → Nat)} {sc : Nat → Nat} {q : List Nat} {i : Nat} {s : SS} {out : List Nat} (h : i = q.length) : runW fi ow ps sc (q.drop i) s out = (0, s, out) := by
  rw [h, List.drop_length]; rfl
theorem run_endR {fi : Bool} {ow : Nat → Nat} {ps : List (Nat → Nat)} {q : List Nat} {i : Nat} {s : SS} {b : List Nat} (h : i = q.length) : runR fi ow ps (q.drop i) s b = (0, s, b) := by
  rw [h, List.drop_length]; rfl
def CopyIs (b : List Nat) (l : Bool) (qs p0 p1 : List Int) (ts : List (List Int)) (ps : List (Nat → Nat)) (fi : Bool) (tn : Int) (dd : Bool) (y : SY) (ow : Nat → Nat) (r : RS) (us : Int) (v : Value) (B : Mem) : Prop :=
  ∃ vp v0 v1 vt vk tvs, v = .agg (shC b l vp v0 v1 vt fi tn dd y ow r vk us) ∧ Shows B 1 vp qs.length (qs.map iv) ∧ Shows B 1 vt tvs.length tvs ∧ ShowsLI B (v0 :: v1 :: tvs) (p0 :: p1 :: ts) ∧ Shows B 32 vk ps.length (psC ps) ∧ ones vp v0 v1 vt vk
theorem sealP_nil {y : SY} {tx : List Nat} (h : (sealP y tx).1 ≠ 0) : (sealP y tx).2.2 = [] := by
  revert h
  unfold sealP
  split
  · intro _; rfl
  split
  · split
    · intro _; rfl
    · intro h; exact absurd rfl h
  split
  · intro _; rfl
  split
  · intro _; rfl
  · intro h; exact absurd rfl h
theorem openP_nil {y : SY} {tx : List Nat} (h : (openP y tx).1 ≠ 0) : (openP y tx).2.2 = [] := by
  revert h
  unfold openP
  split
  · intro _; rfl
  split
  · split
    · intro _; rfl
    · intro h; exact absurd rfl h
  split
  · intro _; rfl
  split
  · intro _; rfl
  split
  · intro _; rfl
  split
  · intro h; exact absurd rfl h
  · intro _; rfl
def mayP (dd : Bool) (tn : Int) (n : Nat) (us : Int) (f0 late : Bool) (pf : Nat) : Bool :=
  if dd = true ∨ us < 0 ∨ tn < 0 ∨ (n : Int) ≤ tn then false else (f0 == (decide (((tn.toNat % 2 : Nat) : Int) = 0) != late)) && decide ((pf : Int) = 0)
theorem li_app {B : Mem} {v0 v1 : Value} {p0 p1 : List Int} {vs : List Value} {ts : List (List Int)} (h0 : Shows B 1 v0 p0.length (p0.map iv)) (h1 : Shows B 1 v1 p1.length (p1.map iv)) (hl : vs.length = ts.length) (hs : ∀ j, j < ts.length → Shows B 1 (vs.getD j undef) (ts.getD j []).length ((ts.getD j []).map iv)) : ShowsLI B (v0 :: v1 :: vs) (p0 :: p1 :: ts) :=
  ⟨by simp [hl], fun i hi => match i with
    | 0 => h0
    | 1 => h1
    | i + 2 => hs i (by simpa using hi)⟩
theorem li_app2 {B : Mem} {v0 v1 : Value} {q0 q1 : List Nat} {vs : List Value} {ts : List (List Int)} (h0 : Shows B 1 v0 q0.length ((ci q0).map iv)) (h1 : Shows B 1 v1 q1.length ((ci q1).map iv)) (hL : ShowsLI B vs ts) : ShowsLI B (v0 :: v1 :: vs) (ci q0 :: ci q1 :: ts) :=
  li_app (by rw [show (ci q0).length = q0.length from by simp [ci]]; exact h0) (by rw [show (ci q1).length = q1.length from by simp [ci]]; exact h1) hL.1 hL.2
theorem set_at {vs : List Value} {i j : Nat} {w : Value} (hi : i < vs.length) : (vs.set i w).getD j undef = if j = i then w else vs.getD j undef := by
  rw [List.getD_eq_getElem?_getD, List.getElem?_set]
  by_cases e : i = j
  · subst e; rw [if_pos rfl, if_pos hi, if_pos rfl]; rfl
  · rw [if_neg e, if_neg (fun x => e x.symm), ← List.getD_eq_getElem?_getD]
theorem keys_one (ps : List (Nat → Nat)) : ∀ u ∈ psC ps, u.oneCell' = true := fun u hu => by
  obtain ⟨f, _, hu⟩ := List.mem_flatMap.1 hu
  obtain ⟨x, _, rfl⟩ := List.mem_map.1 hu
  rfl
theorem shows_room (z : Nat) (xs : List Value) (n : Nat) (hx : xs.length = n * z) (m : Mem) : ∃ v nw, Shows nw z v n xs ∧ FreshM m nw := by
  obtain ⟨r, hr⟩ := fresh_of m
  exact ⟨.slice (some ⟨r, 0, none⟩) n n, [⟨r, xs.toArray, 0⟩], shows_new xs.toArray 0 (by simpa using hx), by simp, fun x hx y hy => by simp at hx; subst hx; exact hr y hy⟩
theorem copy_room (b : List Nat) (l : Bool) (qs p0 p1 : List Int) (ts : List (List Int)) (ps : List (Nat → Nat)) (fi : Bool) (tn : Int) (dd : Bool) (y : SY) (ow : Nat → Nat) (r : RS) (us : Int) (m : Mem) : ∃ v nw, CopyIs b l qs p0 p1 ts ps fi tn dd y ow r us v nw ∧ FreshM m nw := by
  have many : ∀ (ls : List (List Int)) (m : Mem), ∃ (vs : List Value) (nw : Mem), ShowsLI nw vs ls ∧ FreshM m nw := by
    intro ls
    induction ls with
    | nil => exact fun m => ⟨[], [], ⟨rfl, fun i hi => absurd hi (Nat.not_lt_zero i)⟩, fresh_nil m⟩
    | cons q ls ih =>
      intro m
      obtain ⟨v, n1, h1, f1⟩ := shows_room 1 (q.map iv) q.length (by simp) m
      obtain ⟨vs, n2, h2, f2⟩ := ih (m ++ n1)
      refine ⟨v :: vs, n1 ++ n2, ⟨by simp [h2.1], fun i hi => ?_⟩, fresh_cat f1 f2⟩
      match i with
      | 0 => exact h1.mono fun x hx => List.mem_append_left _ hx
      | i + 1 => exact (h2.2 i (by simpa using hi)).mono fun x hx => List.mem_append_right _ hx
  obtain ⟨vs, n1, h1, f1⟩ := many (qs :: p0 :: p1 :: ts) m
  match vs, h1 with
  | vp :: v0 :: v1 :: tvs, h1 =>
    obtain ⟨vt, n2, h2, f2⟩ := shows_room 1 tvs tvs.length (by simp) (m ++ n1)
    obtain ⟨vk, n3, h3, f3⟩ := shows_room 32 (psC ps) ps.length (flatMap_len keyC_len ps) (m ++ (n1 ++ n2))
    have hA := h1.2 0 (by simp)
    have hB := h1.2 1 (by simp)
    have hC := h1.2 2 (by simp)
    refine ⟨_, (n1 ++ n2) ++ n3, ⟨vp, v0, v1, vt, vk, tvs, rfl, ?_, ?_, ?_, ?_, shows_oneC hA, shows_oneC hB, shows_oneC hC, shows_oneC h2, shows_oneC h3⟩, fresh_cat (fresh_cat f1 f2) f3⟩
    · exact Shows.mono hA fun x hx => List.mem_append_left _ (List.mem_append_left _ hx)
    · exact h2.mono fun x hx => List.mem_append_left _ (List.mem_append_right _ hx)
    · exact li_mono (li_tail h1) fun x hx => List.mem_append_left _ (List.mem_append_left _ hx)
    · exact h3.mono fun x hx => List.mem_append_right _ hx
  | [], h1 => exact absurd h1.1 (by simp)
  | [_], h1 => exact absurd h1.1 (by simp)
  | [_, _], h1 => exact absurd h1.1 (by simp)
theorem or4_t {a : Bool} {p q r : Prop} [Decidable p] [Decidable q] [Decidable r] (h : (a || (decide p || (decide q || decide r))) = true) : a = true ∨ p ∨ q ∨ r := by simpa using h
theorem or4_f {a : Bool} {p q r : Prop} [Decidable p] [Decidable q] [Decidable r] (h : (a || (decide p || (decide q || decide r))) = false) : ¬ (a = true ∨ p ∨ q ∨ r) := by
  intro h2
  have : (a || (decide p || (decide q || decide r))) = true := by simpa using h2
  rw [this] at h
  cases h
theorem getD_in {ts : List (List Int)} {i : Nat} (h : i < ts.length) : ts.getD i [] ∈ ts := by
  rw [List.getD_eq_getElem?_getD, List.getElem?_eq_getElem h]; exact List.getElem_mem h
def WrIs (b : List Nat) (l : Bool) (qs p0 p1 : List Int) (ts : List (List Int)) (ps : List (Nat → Nat)) (fi : Bool) (tn : Int) (dd : Bool) (y : SY) (ow : Nat → Nat) (r : RS) (us : Int) (e : Nat) (out : List Nat) (v : Value) (B : Mem) : Prop :=
  ∃ v' w', v = .tuple #[v', w', ii e] ∧ CopyIs b l qs p0 p1 ts ps fi tn dd y ow r us v' B ∧ Shows B 1 w' out.length (out.map by8)
theorem copy_mono {b : List Nat} {l : Bool} {qs p0 p1 : List Int} {ts : List (List Int)} {ps : List (Nat → Nat)} {fi : Bool} {tn : Int} {dd : Bool} {y : SY} {ow : Nat → Nat} {r : RS} {us : Int} {v : Value} {B B' : Mem} (h : CopyIs b l qs p0 p1 ts ps fi tn dd y ow r us v B) (hs : ∀ x ∈ B, x ∈ B') : CopyIs b l qs p0 p1 ts ps fi tn dd y ow r us v B' := by
  obtain ⟨vp, v0, v1, vt, vk, tvs, h1, h2, h3, h4, h5, h6⟩ := h
  exact ⟨vp, v0, v1, vt, vk, tvs, h1, h2.mono hs, h3.mono hs, li_mono h4 hs, h5.mono hs, h6⟩
theorem wr_room (b : List Nat) (l : Bool) (qs p0 p1 : List Int) (ts : List (List Int)) (ps : List (Nat → Nat)) (fi : Bool) (tn : Int) (dd : Bool) (y : SY) (ow : Nat → Nat) (r : RS) (us : Int) (e : Nat) (out : List Nat) (m : Mem) : ∃ v nw, WrIs b l qs p0 p1 ts ps fi tn dd y ow r us e out v nw ∧ FreshM m nw := by
  obtain ⟨v, n1, h1, f1⟩ := copy_room b l qs p0 p1 ts ps fi tn dd y ow r us m
  obtain ⟨w, n2, h2, f2⟩ := shows_room 1 (out.map by8) out.length (by simp) (m ++ n1)
  exact ⟨_, n1 ++ n2, ⟨v, w, rfl, copy_mono h1 fun x hx => List.mem_append_left _ hx, h2.mono fun x hx => List.mem_append_right _ hx⟩, fresh_cat f1 f2⟩
theorem runW_len {fi : Bool} {ow : Nat → Nat} {ps : List (Nat → Nat)} {sc : Nat → Nat} : ∀ (q : List Nat) (s : SS) (out : List Nat), (runW fi ow ps sc q s out).2.2.length ≤ out.length + 48 * q.length
  | [], _, _ => by simp [runW]
  | t :: q, s, out => by
    rw [runW]
    split
    · have h1 := runW_len (fi := fi) (ow := ow) (ps := ps) (sc := sc) q (tokW fi ow ps sc t s).2.1 (out ++ (tokW fi ow ps sc t s).2.2)
      have h2 := tokW_len (fi := fi) (ow := ow) (ps := ps) (sc := sc) (t := t) (s := s)
      rw [List.length_append] at h1
      rw [List.length_cons]; omega
    · simp
theorem turnW_len {fi : Bool} {ow : Nat → Nat} {ps : List (Nat → Nat)} {sc : Nat → Nat} (q : List Nat) (s : SS) (tx : List Nat) : (turnW fi ow ps sc q s tx).2.2.length ≤ 48 * q.length + tx.length + 16 := by
  unfold turnW
  split
  · have h1 := runW_len (fi := fi) (ow := ow) (ps := ps) (sc := sc) q s []
    have h2 := sealP_len (runW fi ow ps sc q s []).2.1.1 tx
    simp only [List.length_append]
    simp at h1
    omega
  · simp
theorem runR_len {fi : Bool} {ow : Nat → Nat} {ps : List (Nat → Nat)} : ∀ (q : List Nat) (s : SS) (b : List Nat), (runR fi ow ps q s b).2.2.length ≤ b.length
  | [], _, _ => Nat.le_refl _
  | t :: q, s, b => by
    rw [runR]
    split
    · exact Nat.le_trans (runR_len q _ _) tokR_len
    · simp
theorem turnR_len {fi : Bool} {ow : Nat → Nat} {ps : List (Nat → Nat)} (q : List Nat) (s : SS) (b : List Nat) : (turnR fi ow ps q s b).2.2.length ≤ b.length := by
  unfold turnR
  split
  · exact Nat.le_trans (openP_len _ _) (runR_len q s b)
  · simp
theorem li_row {B : Mem} {vs : List Value} {ts : List (List Int)} (h : ShowsLI B vs ts) {i : Nat} {q : List Nat} (hi : i < ts.length) (he : ts.getD i [] = ci q) : Shows B 1 (vs.getD i undef) q.length ((ci q).map iv) := by
  have h1 := h.2 i hi
  rw [he] at h1
  rwa [show (ci q).length = q.length by simp [ci]] at h1
def doneP (dd : Bool) (n : Nat) (tn : Int) : Bool := !dd && decide ((n : Int) ≤ tn)
def begY (n : List Nat) : SY := (false, fun _ => 0, 0, sbeg n, sbeg n)
theorem zero_byte : (0 : Nat) < 256 := by decide
theorem okY_beg {n : List Nat} (h : ∀ b ∈ n, b < 256) : okY (begY n) := ⟨fun _ _ => zero_byte, zero_small, fun _ _ => sbeg_lt h _, fun _ _ => sbeg_lt h _⟩
def tokA (mine : Bool) (ow ea : Nat → Nat) (np : Bool) (t : Nat) (s : SY × RS) : SY × RS :=
  if t = 2 then (if mine then (hashP s.1 (ky (pubK ow)), s.2) else (hashP s.1 (ky s.2.2.2.1), s.2))
  else if mine then (freshP np s.1 (pubK ea), (ea, true, s.2.2.2)) else (freshP np s.1 ea, (s.2.1, s.2.2.1, s.2.2.2.1, s.2.2.2.2.1, ea, true))
def runA (mine : Bool) (ow ea : Nat → Nat) (np : Bool) (q : List Nat) (s : SY × RS) : SY × RS := q.foldl (fun s t => tokA mine ow ea np t s) s
def aheadP (fi : Bool) (ow ea : Nat → Nat) (np : Bool) (q0 q1 : List Nat) (s : SY × RS) : SY × RS := runA (!fi) ow ea np q1 (runA fi ow ea np q0 s)
theorem runA_next {mine np : Bool} {ow ea : Nat → Nat} {q : List Nat} {i : Nat} {s : SY × RS} (h : i < q.length) : runA mine ow ea np (q.take (i + 1)) s = tokA mine ow ea np (q.getD i 0) (runA mine ow ea np (q.take i) s) := by
  unfold runA
  rw [List.take_add_one, List.foldl_append, List.getD_eq_getElem?_getD, List.getElem?_eq_getElem h]; rfl
theorem okA {mine np : Bool} {ow ea : Nat → Nat} {t : Nat} {s : SY × RS} (hs : okY s.1 ∧ okR s.2) (he : B32 ea) : okY (tokA mine ow ea np t s).1 ∧ okR (tokA mine ow ea np t s).2 := by
  unfold tokA
  split
  · split
    · exact ⟨okY_hash hs.1 _, hs.2⟩
    · exact ⟨okY_hash hs.1 _, hs.2⟩
  · split
    · exact ⟨okY_fresh hs.1 _ _, he, hs.2.2⟩
    · exact ⟨okY_fresh hs.1 _ _, hs.2.1, hs.2.2.1, he⟩
theorem knA9 {mine np : Bool} {ow ea : Nat → Nat} {t : Nat} {s : SY × RS} : (tokA mine ow ea np t s).2.2.2.2.1 = s.2.2.2.2.1 := by
  unfold tokA
  split
  · split <;> rfl
  · split <;> rfl
theorem and3_t {p : Prop} [Decidable p] {b c : Bool} (h : (decide p && (!b && !c)) = true) : p ∧ b = false ∧ c = false := by
  cases b <;> cases c <;> simp_all
end Go.Proofs.YthljakcegoohlabGreatDoor
namespace Go.Proofs.YthljakcegoohlabGreatDoor
open Go Go.RowKit
section
variable {P : Program} {G : Mem} {R : Reg} {ops : Array Oper} {K : Act → Mem → Prop} {rest : List Oper} {a : Act} {m : Mem} {d : Option Tmp} {ty : TypeId} {pos : String} {aft : Array Edge}
variable {T T' : TypeId} {x y : Operand}
theorem st_eqNil {e : TypeId} {oa : Option Addr} {len cap : Nat} (hT : P.underlying T = some (.slice e)) (hx : a.eval x = .slice oa len cap) (hy : a.eval y = nilS) (h : opsM P G R ops K rest (a.put d (.bool oa.isNone)) m) :
    opsM P G R ops K (⟨d, .binOp .eql T x y T', ty, pos, aft, none⟩ :: rest) a m :=
  st_bin (fun w => by
    have h1 : (Op.equalIn 10000 T (.slice oa len cap) (.slice none 0 0)).run P w = .ok oa.isNone w := by
      unfold Op.equalIn
      rw [Sem.run_bind, run_underlying hT]
      cases oa <;> rfl
    rw [hx, hy]
    simp only [Sem.run_bind, eqGuard, binOp, Op.equal, Op.maxDepth]
    simp [h1]) h
end
section
variable {P : Program} {G : Mem} {R : Reg} {ops : Array Oper} {n : Nat} {K : Env → Mm → Prop} {Q : Exit → Env → Mm → Prop} {rest : List Oper} {E : Env} {M : Mm} {d : Nat} {ty : TypeId} {pos : String} {aft : Array Edge}
variable {T T' : TypeId} {x y : Operand}
theorem e_eqNil {e : TypeId} {v : Value} {B : Mem} {z k : Nat} {xs : List Value} (hv : Shows B z v k xs) (hT : P.underlying T = some (.slice e)) (hx : rd E x = some v) (hy : rd E y = some nilS) (hd : Nat.blt d n = true)
    (h : ∀ b : Bool, (b = true → k = 0) → OpsE P G R ops n K rest ((d, .bool b) :: E) M) : OpsE P G R ops n K (⟨some d, .binOp .eql T x y T', ty, pos, aft, none⟩ :: rest) E M := fun _ _ ha hM => by
  rcases hv with ⟨h0, _, oa, cap, rfl, _⟩ | ⟨b, o, cap, c, t, rfl, _⟩
  · exact st_eqNil hT (ha.rd hx) (ha.rd hy) (h _ (fun _ => h0) _ _ (ha.put hd _) hM)
  · exact st_eqNil hT (ha.rd hx) (ha.rd hy) (h _ (fun hb => by cases hb) _ _ (ha.put hd _) hM)
theorem any_opt {oz : Option Blk} (i : Nat) (hi : lkM M i = oz) : ∀ q ∈ oz.toList, q ∈ G ∨ ∃ j, lkM M j = some q := fun q hq => by
  cases oz with
  | none => cases hq
  | some z =>
    simp at hq
    subst hq
    exact .inr ⟨i, hi⟩
end
section
variable {P : Program} {G : Mem} {R : Reg} {ops : Array Oper} {K : Act → Mem → Prop} {rest : List Oper} {a : Act} {m : Mem} {d : Option Tmp} {ty : TypeId} {pos : String} {aft : Array Edge}
variable {T T' : TypeId} {x y : Operand}
theorem st_neB {p q : Bool} (hT : P.underlying T = some .bool) (hx : a.eval x = .bool p) (hy : a.eval y = .bool q) (h : opsM P G R ops K rest (a.put d (.bool (p != q))) m) :
    opsM P G R ops K (⟨d, .binOp .neq T x y T', ty, pos, aft, none⟩ :: rest) a m :=
  st_bin (fun w => by
    have h1 : (Op.equalIn 10000 T (.bool p) (.bool q)).run P w = .ok (p == q) w := run_equalIn_bool' w 9999 T p q hT
    rw [hx, hy]
    simp only [Sem.run_bind, eqGuard, binOp, Op.equal, Op.maxDepth]
    simp [h1, bne]) h
end
section
variable {P : Program} {G : Mem} {R : Reg} {ops : Array Oper} {n : Nat} {K : Env → Mm → Prop} {rest : List Oper} {E : Env} {M : Mm} {d : Nat} {ty : TypeId} {pos : String} {aft : Array Edge}
variable {T T' : TypeId} {x y : Operand}
theorem e_neB {p q : Bool} (hT : P.underlying T = some .bool) (hx : rd E x = some (.bool p)) (hy : rd E y = some (.bool q)) (hd : Nat.blt d n = true) (h : OpsE P G R ops n K rest ((d, .bool (p != q)) :: E) M) :
    OpsE P G R ops n K (⟨some d, .binOp .neq T x y T', ty, pos, aft, none⟩ :: rest) E M := fun _ _ ha hM => st_neB hT (ha.rd hx) (ha.rd hy) (h _ _ (ha.put hd _) hM)
end
section
variable {P : Program} {G : Mem} {n : Nat}
def EndD3 (P : Program) (S : Value → Mem → Prop) (fn : Func) : Exit → Env → Mm → Prop
  | .normal, E, M | .ret, E, M => ∃ r r' r'' v v' v'' fz, fn.results = #[r, r', r''] ∧ Res P E M r v ∧ Res P E M r' v' ∧ Res P E M r'' v'' ∧ S (.tuple #[v, v', v'']) fz ∧ Bag fz M
  | _, _, _ => False
theorem fxD3 {f : FuncId} {fn : Func} {c : Code} {args : Array Value} {S : Value → Mem → Prop} (hf : P.funcs[f]? = some fn) (hb : fn.body = some c) (hn : fn.ntmps = n) (ha : args.size ≤ n) (E : Env) (hE : ∀ t v, lk E t = some v → args[t]? = some v)
    (h : SatE P G c n (EndD3 P S fn) E []) : Fx P G [] f args (fun v l1 nw => l1 = [] ∧ S v nw) :=
  fx_of hf hb (sat_mono (h _ [] ⟨by simp [hn]; omega, rfl, fun t v ht => by
    have := hE t v ht
    have hlt := (Array.getElem?_eq_some_iff.1 this).1
    rw [Array.getElem?_append_left hlt]; exact this⟩ (FitsM.nil _)) fun e' a m ⟨E', M', h1, h0, h2⟩ => by
      have key : (∃ r r' r'' v v' v'' fz, fn.results = #[r, r', r''] ∧ Res P E' M' r v ∧ Res P E' M' r' v' ∧ Res P E' M' r'' v'' ∧ S (.tuple #[v, v', v'']) fz ∧ Bag fz M') → a.defers = [] ∧ ∃ v l1 nw, (l1 = [] ∧ S v nw) ∧ (nw.map (·.b)).Nodup ∧ (∀ x ∈ nw, x.b ∉ ([] : Mem).map (·.b)) ∧ (∀ x ∈ l1 ++ nw, x ∈ m) ∧ ∀ w, MemIn m w → (results fn a.tmps).run P w = .ok v w := fun ⟨r, r', r'', v, v', v'', fz, hr, hR, hR', hR'', ho, hb⟩ =>
        ⟨h1.defers, .tuple #[v, v', v''], [], fz, ⟨rfl, ho⟩, (h0.bag_in hb).1, by simp, fun x hx => (h0.bag_in hb).2 x (by simpa using hx), fun w hw => by
          have := res_run h1 h0 hw hR
          have t' := res_run h1 h0 hw hR'
          have t'' := res_run h1 h0 hw hR''
          rw [results_eq, hr, mapM3]
          simp [this, t', t'']⟩
      cases e' <;> first | exact key h2 | exact h2.elim)
end
end Go.Proofs.YthljakcegoohlabGreatDoor
namespace Go.Proofs.YthljakcegoohlabGreatDoor
open Go Go.RowKit
theorem ky_at {f g : Nat → Nat} (h : ky f = ky g) : ∀ j, j < 32 → f j = g j := fun j hj => by
  have h1 : (ky f).getD j 0 = (ky g).getD j 0 := by rw [h]
  simpa [ky, List.getD_eq_getElem?_getD, hj] using h1
theorem pnt_ky {f g : Nat → Nat} (h : ky f = ky g) : pnt f = pnt g := by
  unfold pnt
  rw [vb_congr 32 (fun j hj => ky_at h j hj)]
theorem ky_list {l : List Nat} (hl : 32 ≤ l.length) : ky (fun j => l.getD j 0) = l.take 32 := by
  apply List.ext_getElem
  · simp; omega
  · intro i h1 h2
    have hi : i < l.length := by simp at h1; omega
    simp [ky, List.getD_eq_getElem?_getD, List.getElem?_eq_getElem hi]
theorem ky_back (f : Nat → Nat) (rest : List Nat) : ky (fun j => (ky f ++ rest).getD j 0) = ky f := by
  rw [ky_list (by simp)]
  rw [List.take_append_of_le_length (by simp), List.take_of_length_le (by simp)]
theorem mul_keys {a b g h : Nat → Nat} (ha : B32 a) (hb : B32 b) (hg : ky g = ky (pubK b)) (hh : ky h = ky (pubK a)) : mulK a g = mulK b h ∧ mulK a g ≠ 0 := by
  have e1 : pnt g = nOut 9 (sec b) := by rw [pnt_ky hg]; exact pnt_bt (nOut_lt _ _)
  have e2 : pnt h = nOut 9 (sec a) := by rw [pnt_ky hh]; exact pnt_bt (nOut_lt _ _)
  unfold mulK
  rw [e1, e2]
  exact ⟨nOut_turns (by decide) (sec_top ha).2 (sec_top hb).2 (sec_two a) (sec_two b), nOut_keys (sec_eight a) (sec_top ha).1 (sec_top ha).2 (sec_eight b) (sec_top hb).1 (sec_top hb).2⟩
theorem seal_back {y : SY} {tx : List Nat} {c : Nat} (hk : okC y.1 y.2.1 y.2.2.1 = true) (hn : y.2.2.1 ≤ c) (hc : c < 9223372036854775808) (ht : tx.length ≤ 800) (hb : ∀ x ∈ tx, x < 256) :
    ∃ y2 cs, sealP y tx = (0, y2, cs) ∧ openP y cs = (0, y2, tx) ∧ cs.length = tx.length + (if y.1 then 16 else 0) ∧ okC y2.1 y2.2.1 y2.2.2.1 = true ∧ y2.2.2.1 ≤ c + 1 ∧ y2.1 = y.1 ∧ (∀ x ∈ cs, x < 256) := by
  obtain ⟨has, k, n, ch, h⟩ := y
  dsimp only at hk hn ⊢
  unfold sealP openP
  dsimp only
  cases has with
  | false =>
    rw [if_neg (by rw [hk]; decide), if_pos rfl, if_neg (by omega)]
    refine ⟨hashP (false, k, n, ch, h) tx, tx, rfl, ?_, rfl, hk, ?_, rfl, hb⟩
    · rw [if_neg (by rw [hk]; decide), if_pos rfl, if_neg (by omega)]
    · show n ≤ c + 1; omega
  | true =>
    rw [if_neg (by rw [hk]; decide), if_neg (by decide), if_neg (by omega), if_neg (by omega)]
    refine ⟨_, _, rfl, ?_, sealL_len _ _ _ _, rfl, ?_, rfl, sealL_lt _ _ _ _⟩
    · have e := seal_opens k (nonU n) (ky h) tx
      unfold opensL at e
      rw [if_neg (by rw [hk]; decide), if_neg (by decide), if_neg (by omega), if_neg (by rw [sealL_len]; omega), if_neg (by rw [sealL_len]; omega), if_pos e, seal_open _ _ _ hb]
    · show n + 1 ≤ c + 1; omega
abbrev FL := Bool × Bool × Bool × Bool
structure Meet (ow ow' : Nat → Nat) (c : Nat) (F : FL) (s s' : SS) : Prop where
  y : s.1 = s'.1
  u : s.2.2 = s'.2.2
  ok : okC s.1.1 s.1.2.1 s.1.2.2.1 = true
  n : s.1.2.2.1 ≤ c
  f1 : s.2.1.2.1 = F.1
  f2 : s'.2.1.2.2.2.2.2 = F.1
  g1 : s'.2.1.2.1 = F.2.1
  g2 : s.2.1.2.2.2.2.2 = F.2.1
  k1 : s.2.1.2.2.2.1 = F.2.2.1
  k2 : s'.2.1.2.2.2.1 = F.2.2.2
  fk : F.1 = true → B32 s.2.1.1 ∧ ky s'.2.1.2.2.2.2.1 = ky (pubK s.2.1.1)
  gk : F.2.1 = true → B32 s'.2.1.1 ∧ ky s.2.1.2.2.2.2.1 = ky (pubK s'.2.1.1)
  lk : F.2.2.1 = true → ky s.2.1.2.2.1 = ky (pubK ow')
  jk : F.2.2.2 = true → ky s'.2.1.2.2.1 = ky (pubK ow)
def swapF (F : FL) : FL := (F.2.1, F.1, F.2.2.2, F.2.2.1)
theorem Meet.swap {ow ow' : Nat → Nat} {c : Nat} {F : FL} {s s' : SS} (h : Meet ow ow' c F s s') : Meet ow' ow c (swapF F) s' s :=
  ⟨h.y.symm, h.u.symm, by rw [← h.y]; exact h.ok, by rw [← h.y]; exact h.n, h.g1, h.g2, h.f1, h.f2, h.k2, h.k1, h.gk, h.fk, h.jk, h.lk⟩
theorem Meet.more {ow ow' : Nat → Nat} {c d : Nat} {F : FL} {s s' : SS} (h : Meet ow ow' c F s s') (hd : c ≤ d) : Meet ow ow' d F s s' :=
  ⟨h.y, h.u, h.ok, by have := h.n; omega, h.f1, h.f2, h.g1, h.g2, h.k1, h.k2, h.fk, h.gk, h.lk, h.jk⟩
def needT (fi : Bool) (np : Nat) (t : Nat) (F : FL) (u : Nat) : Bool :=
  if t = 1 ∨ t = 2 then true
  else if t = 3 then F.1 && F.2.1
  else if t = 4 then (if fi then F.1 && F.2.2.1 else F.2.1 && F.2.2.2)
  else if t = 5 then (if fi then F.2.1 && F.2.2.2 else F.1 && F.2.2.1)
  else if t = 6 then F.2.2.1 && F.2.2.2
  else if t = 7 then decide (u < np) else false
def fstep (t : Nat) (F : FL) : FL := if t = 1 then (true, F.2) else if t = 2 then (F.1, F.2.1, F.2.2.1, true) else F
def goodQ (fi : Bool) (np : Nat) : List Nat → FL → Nat → Bool
  | [], _, _ => true
  | t :: q, F, u => needT fi np t F u && goodQ fi np q (fstep t F) (if t = 7 then u + 1 else u)
def lastF : List Nat → FL → FL
  | [], F => F
  | t :: q, F => lastF q (fstep t F)
theorem both_meet {fi : Bool} {ow ow' : Nat → Nat} {ps : List (Nat → Nat)} {c t : Nat} {F : FL} {s s' : SS} (h : Meet ow ow' c F s s') (ho : B32 ow) (ho' : B32 ow') (ht : t ≠ 1) (ht2 : t ≠ 2) (hn : needT fi ps.length t F s.2.2 = true) :
    ∃ z z', bothT fi ow ps t s = (0, z) ∧ bothT (!fi) ow' ps t s' = (0, z') ∧ Meet ow ow' c F z z' ∧ z.2.2 = (if t = 7 then s.2.2 + 1 else s.2.2) := by
  obtain ⟨y, r, u⟩ := s
  obtain ⟨y', r', u'⟩ := s'
  obtain rfl : y = y' := h.y
  obtain rfl : u = u' := h.u
  have hn0 := hn
  unfold needT at hn
  rw [if_neg (by omega)] at hn
  by_cases h7 : t = 7
  · subst h7
    have hu : u < ps.length := by simpa using hn
    refine ⟨(mixP y (ky (pskAt ps u)), r, u + 1), (mixP y (ky (pskAt ps u)), r', u + 1), by unfold bothT; rw [if_pos rfl, if_neg (show ¬ ps.length ≤ u by omega)], by unfold bothT; rw [if_pos rfl, if_neg (show ¬ ps.length ≤ u by omega)], ⟨rfl, rfl, rfl, Nat.zero_le _, h.f1, h.f2, h.g1, h.g2, h.k1, h.k2, h.fk, h.gk, h.lk, h.jk⟩, rfl⟩
  · have key : hasT fi r t = true ∧ sawT fi r t = true ∧ hasT (!fi) r' t = true ∧ sawT (!fi) r' t = true ∧ mulK (secT fi ow r t) (pubT fi r t) = mulK (secT (!fi) ow' r' t) (pubT (!fi) r' t) ∧ mulK (secT fi ow r t) (pubT fi r t) ≠ 0 := by
      have f1 := h.f1; have f2 := h.f2; have g1 := h.g1; have g2 := h.g2; have k1 := h.k1; have k2 := h.k2
      have fk := h.fk; have gk := h.gk; have lk := h.lk; have jk := h.jk
      dsimp only at f1 f2 g1 g2 k1 k2 fk gk lk jk
      by_cases h3 : t = 3
      · subst h3
        simp only [reduceIte, Bool.and_eq_true] at hn
        obtain ⟨p, q⟩ := hn
        have m := mul_keys (fk p).1 (gk q).1 (gk q).2 (fk p).2
        cases fi <;> exact ⟨f1.trans p, g2.trans q, g1.trans q, f2.trans p, m.1, m.2⟩
      by_cases h6 : t = 6
      · subst h6
        simp only [reduceIte, Bool.and_eq_true, show ¬ (6 : Nat) = 3 by decide, show ¬ (6 : Nat) = 4 by decide, show ¬ (6 : Nat) = 5 by decide] at hn
        obtain ⟨p, q⟩ := hn
        have m := mul_keys ho ho' (lk p) (jk q)
        cases fi <;> exact ⟨rfl, k1.trans p, rfl, k2.trans q, m.1, m.2⟩
      by_cases h4 : t = 4
      · subst h4
        cases fi with
        | true =>
          simp only [reduceIte, Bool.and_eq_true, show ¬ (4 : Nat) = 3 by decide] at hn
          obtain ⟨p, q⟩ := hn
          have m := mul_keys (fk p).1 ho' (lk q) (fk p).2
          exact ⟨f1.trans p, k1.trans q, rfl, f2.trans p, m.1, m.2⟩
        | false =>
          simp only [reduceIte, Bool.and_eq_true, show ¬ (4 : Nat) = 3 by decide, Bool.false_eq_true] at hn
          obtain ⟨p, q⟩ := hn
          have m := mul_keys ho (gk p).1 (gk p).2 (jk q)
          exact ⟨rfl, g2.trans p, g1.trans p, k2.trans q, m.1, m.2⟩
      by_cases h5 : t = 5
      · subst h5
        cases fi with
        | true =>
          simp only [reduceIte, Bool.and_eq_true, show ¬ (5 : Nat) = 3 by decide, show ¬ (5 : Nat) = 4 by decide] at hn
          obtain ⟨p, q⟩ := hn
          have m := mul_keys ho (gk p).1 (gk p).2 (jk q)
          exact ⟨rfl, g2.trans p, g1.trans p, k2.trans q, m.1, m.2⟩
        | false =>
          simp only [reduceIte, Bool.and_eq_true, show ¬ (5 : Nat) = 3 by decide, show ¬ (5 : Nat) = 4 by decide, Bool.false_eq_true] at hn
          obtain ⟨p, q⟩ := hn
          have m := mul_keys (fk p).1 ho' (lk q) (fk p).2
          exact ⟨f1.trans p, k1.trans q, rfl, f2.trans p, m.1, m.2⟩
      rw [if_neg h3, if_neg h4, if_neg h5, if_neg h6, if_neg h7] at hn
      exact absurd hn (by decide)
    obtain ⟨a1, a2, b1, b2, m1, m2⟩ := key
    refine ⟨(keyP y (ky (bt (mulK (secT fi ow r t) (pubT fi r t)))), r, u), (keyP y (ky (bt (mulK (secT fi ow r t) (pubT fi r t)))), r', u), ?_, ?_, ⟨rfl, rfl, rfl, Nat.zero_le _, h.f1, h.f2, h.g1, h.g2, h.k1, h.k2, h.fk, h.gk, h.lk, h.jk⟩, by rw [if_neg h7]⟩
    · unfold bothT
      dsimp only
      rw [if_neg h7, if_neg (by rw [a1, a2]; decide), if_neg m2]
    · unfold bothT
      dsimp only
      rw [if_neg h7, if_neg (by rw [b1, b2]; decide), ← m1, if_neg m2]
theorem okC_fresh {np : Bool} {y : SY} {f : Nat → Nat} (h : okC y.1 y.2.1 y.2.2.1 = true) : okC (freshP np y f).1 (freshP np y f).2.1 (freshP np y f).2.2.1 = true := by
  unfold freshP
  split
  · rfl
  · exact h
theorem num_fresh {np : Bool} {y : SY} {f : Nat → Nat} {c : Nat} (h : y.2.2.1 ≤ c) : (freshP np y f).2.2.1 ≤ c := by
  unfold freshP
  split
  · exact Nat.zero_le _
  · exact h
theorem freshP_ky {np : Bool} {y : SY} {f g : Nat → Nat} (h : ky f = ky g) : freshP np y f = freshP np y g := by
  unfold freshP
  rw [h]
theorem metW_e {fi : Bool} {ow : Nat → Nat} {ps : List (Nat → Nat)} {sc : Nat → Nat} {s : SS} : tokW fi ow ps sc 1 s = (0, (freshP (npk ps) s.1 (pubK sc), (sc, true, s.2.1.2.2), s.2.2), ky (pubK sc)) := by
  unfold tokW; rw [if_pos rfl]
theorem metR_e {fi : Bool} {ow : Nat → Nat} {ps : List (Nat → Nat)} {f : Nat → Nat} {rest : List Nat} {s : SS} : tokR fi ow ps 1 s (ky f ++ rest) = (0, (freshP (npk ps) s.1 (fun j => (ky f ++ rest).getD j 0), (s.2.1.1, s.2.1.2.1, s.2.1.2.2.1, s.2.1.2.2.2.1, (fun j => (ky f ++ rest).getD j 0), true), s.2.2), rest) := by
  have hd : (ky f ++ rest).drop 32 = rest := by
    rw [List.drop_append_of_le_length (by simp), List.drop_eq_nil_of_le (by simp)]; rfl
  unfold tokR; rw [if_pos rfl, if_neg (by simp), hd]
theorem metW_s {fi : Bool} {ow : Nat → Nat} {ps : List (Nat → Nat)} {sc : Nat → Nat} {s : SS} {y2 : SY} {cs : List Nat} (h : sealP s.1 (ky (pubK ow)) = (0, y2, cs)) : tokW fi ow ps sc 2 s = (0, (y2, s.2), cs) := by
  unfold tokW; rw [if_neg (by decide), if_pos rfl, h]
theorem metR_s {fi : Bool} {ow : Nat → Nat} {ps : List (Nat → Nat)} {cs tx rest : List Nat} {s : SS} {y2 : SY} (hl : cs.length = keyN s.1) (h : openP s.1 cs = (0, y2, tx)) : tokR fi ow ps 2 s (cs ++ rest) = (0, (y2, (s.2.1.1, s.2.1.2.1, (fun j => tx.getD j 0), true, s.2.1.2.2.2.2), s.2.2), rest) := by
  have ht : (cs ++ rest).take (keyN s.1) = cs := by rw [List.take_append_of_le_length (by omega), List.take_of_length_le (by omega)]
  have hd : (cs ++ rest).drop (keyN s.1) = rest := by rw [List.drop_append_of_le_length (by omega), List.drop_eq_nil_of_le (by omega)]; rfl
  unfold tokR; rw [if_neg (by decide), if_pos rfl, if_neg (by rw [List.length_append]; omega), ht, hd, h, if_pos rfl]
theorem tok_meet {fi : Bool} {ow ow' : Nat → Nat} {ps : List (Nat → Nat)} {sc : Nat → Nat} {c t : Nat} {F : FL} {s s' : SS} (h : Meet ow ow' c F s s') (ho : B32 ow) (ho' : B32 ow') (hs : B32 sc) (hc : c < 9223372036854775807) (hn : needT fi ps.length t F s.2.2 = true) (rest : List Nat) :
    ∃ z z' pc, tokW fi ow ps sc t s = (0, z, pc) ∧ tokR (!fi) ow' ps t s' (pc ++ rest) = (0, z', rest) ∧ Meet ow ow' (c + 1) (fstep t F) z z' ∧ z.2.2 = (if t = 7 then s.2.2 + 1 else s.2.2) ∧ pc.length ≤ 48 := by
  obtain ⟨y, r, u⟩ := s
  obtain ⟨y', r', u'⟩ := s'
  obtain rfl : y = y' := h.y
  obtain rfl : u = u' := h.u
  by_cases h1 : t = 1
  · subst h1
    have hk := ky_back (pubK sc) rest
    refine ⟨_, _, _, metW_e, metR_e (f := pubK sc) (rest := rest), ⟨(freshP_ky hk).symm, rfl, okC_fresh h.ok, by have := num_fresh (np := npk ps) (f := pubK sc) h.n; exact Nat.le_succ_of_le this, rfl, rfl, h.g1, h.g2, h.k1, h.k2, fun _ => ⟨hs, hk⟩, h.gk, h.lk, h.jk⟩, rfl, by simp⟩
  by_cases h2 : t = 2
  · subst h2
    obtain ⟨y2, cs, e1, e2, e3, e4, e5, _, _⟩ := seal_back (c := c) h.ok h.n (by omega) (tx := ky (pubK ow)) (by simp) (ky_lt (pubK_lt ow))
    dsimp only at e1 e2 e3
    have hl : cs.length = keyN y := by rw [e3, ky_len]; unfold keyN; split <;> rfl
    have hk : ky (fun j => (ky (pubK ow)).getD j 0) = ky (pubK ow) := by
      have := ky_back (pubK ow) []
      rwa [List.append_nil] at this
    refine ⟨_, _, _, metW_s e1, metR_s (rest := rest) hl e2, ⟨rfl, rfl, e4, e5, h.f1, h.f2, h.g1, h.g2, h.k1, rfl, h.fk, h.gk, h.lk, fun _ => hk⟩, rfl, by rw [hl]; unfold keyN; split <;> omega⟩
  · obtain ⟨z, z', e1, e2, e3, e4⟩ := both_meet (fi := fi) (ps := ps) (t := t) h ho ho' h1 h2 hn
    have ef : fstep t F = F := by unfold fstep; rw [if_neg h1, if_neg h2]
    refine ⟨z, z', [], ?_, ?_, ef.symm ▸ e3.more (by omega), e4, by simp⟩
    · unfold tokW; rw [if_neg h1, if_neg h2, e1]
    · unfold tokR; rw [if_neg h1, if_neg h2, e2]; rfl
theorem run_meet {fi : Bool} {ow ow' : Nat → Nat} {ps : List (Nat → Nat)} {sc : Nat → Nat} (ho : B32 ow) (ho' : B32 ow') (hs : B32 sc) : ∀ (q : List Nat) {c : Nat} {F : FL} {s s' : SS} (out : List Nat), Meet ow ow' c F s s' → c + q.length < 9223372036854775807 → goodQ fi ps.length q F s.2.2 = true →
    ∃ z pc, runW fi ow ps sc q s out = (0, z, out ++ pc) ∧ pc.length ≤ 48 * q.length ∧ z.2.2 = s.2.2 + (q.filter (fun t => decide (t = 7))).length ∧ ∀ rest, ∃ z', runR (!fi) ow' ps q s' (pc ++ rest) = (0, z', rest) ∧ Meet ow ow' (c + q.length) (lastF q F) z z'
  | [], c, F, s, s', out, h, _, _ => ⟨s, [], by rw [List.append_nil]; rfl, by simp, by simp, fun rest => ⟨s', rfl, h⟩⟩
  | t :: q, c, F, s, s', out, h, hc, hg => by
    rw [goodQ, Bool.and_eq_true] at hg
    rw [List.length_cons] at hc
    obtain ⟨z0, z0', p0, a1, _, a3, a4, a5⟩ := tok_meet (fi := fi) (ps := ps) (sc := sc) (t := t) h ho ho' hs (by omega) hg.1 []
    have hg2 : goodQ fi ps.length q (fstep t F) z0.2.2 = true := by rw [a4]; exact hg.2
    obtain ⟨z, pc, b1, b2, b3, _⟩ := run_meet ho ho' hs q (out ++ p0) a3 (by omega) hg2
    refine ⟨z, p0 ++ pc, ?_, ?_, ?_, fun rest => ?_⟩
    · rw [runW, a1]
      dsimp only
      rw [if_pos rfl, b1, List.append_assoc]
    · rw [List.length_append, List.length_cons]; omega
    · rw [b3, a4, List.filter_cons]
      by_cases h7 : t = 7
      · rw [if_pos h7, if_pos (by simp [h7]), List.length_cons]; omega
      · rw [if_neg h7, if_neg (by simp [h7])]
    · obtain ⟨z1, z1', p1, c1, c2, c3, c4, _⟩ := tok_meet (fi := fi) (ps := ps) (sc := sc) (t := t) h ho ho' hs (by omega) hg.1 (pc ++ rest)
      have e := a1.symm.trans c1
      obtain ⟨rfl, rfl⟩ : z0 = z1 ∧ p0 = p1 := ⟨congrArg (fun w => w.2.1) e, congrArg (fun w => w.2.2) e⟩
      obtain ⟨z2, pc2, d1, _, _, d4⟩ := run_meet ho ho' hs q (out ++ p0) c3 (by omega) hg2
      have e2 := b1.symm.trans d1
      have e3 : (out ++ p0) ++ pc = (out ++ p0) ++ pc2 := congrArg (fun w => w.2.2) e2
      have e4 : z = z2 := congrArg (fun w => w.2.1) e2
      obtain rfl := List.append_cancel_left e3
      obtain rfl := e4
      obtain ⟨z', f1, f2⟩ := d4 rest
      refine ⟨z', ?_, ?_⟩
      · rw [runR, List.append_assoc, c2]
        dsimp only
        rw [if_pos rfl]
        exact f1
      · rw [List.length_cons, lastF, show c + (q.length + 1) = c + 1 + q.length by omega]; exact f2
theorem turn_meet {fi : Bool} {ow ow' : Nat → Nat} {ps : List (Nat → Nat)} {sc : Nat → Nat} (ho : B32 ow) (ho' : B32 ow') (hs : B32 sc) (q : List Nat) {c : Nat} {F : FL} {s s' : SS} {tx : List Nat} (h : Meet ow ow' c F s s') (hc : c + q.length < 9223372036854775807) (hg : goodQ fi ps.length q F s.2.2 = true) (ht : tx.length ≤ 800) (hb : ∀ x ∈ tx, x < 256) :
    ∃ z z' m, turnW fi ow ps sc q s tx = (0, z, m) ∧ turnR (!fi) ow' ps q s' m = (0, z', tx) ∧ Meet ow ow' (c + q.length + 1) (lastF q F) z z' ∧ z.2.2 = s.2.2 + (q.filter (fun t => decide (t = 7))).length ∧ m.length ≤ 48 * q.length + tx.length + 16 := by
  obtain ⟨z, pc, a1, a2, a3, a4⟩ := run_meet (fi := fi) (sc := sc) ho ho' hs q [] h hc hg
  obtain ⟨z1, _, b2⟩ := a4 []
  obtain ⟨y2, cs, e1, e2, e3, e4, e5, _, _⟩ := seal_back b2.ok b2.n (by omega) ht hb
  obtain ⟨z', c1, c2⟩ := a4 cs
  rw [List.nil_append] at a1
  refine ⟨(y2, z.2), (y2, z'.2), pc ++ cs, ?_, ?_, ⟨rfl, c2.u, e4, e5, c2.f1, c2.f2, c2.g1, c2.g2, c2.k1, c2.k2, c2.fk, c2.gk, c2.lk, c2.jk⟩, a3, ?_⟩
  · unfold turnW
    rw [a1]
    dsimp only
    rw [if_pos rfl, e1]
  · unfold turnR
    rw [c1]
    dsimp only
    rw [if_pos rfl, ← c2.y, e2]
  rw [List.length_append, e3]
  split <;> omega
end Go.Proofs.YthljakcegoohlabGreatDoor
namespace Go.Proofs.YthljakcegoohlabGreatDoor
open Go Go.RowKit
theorem beg_room (b : List Nat) (l : Bool) (qs p0 p1 : List Int) (ts : List (List Int)) (ps : List (Nat → Nat)) (fi : Bool) (tn : Int) (dd : Bool) (y : SY) (ow : Nat → Nat) (r : RS) (us : Int) (m : Mem) : ∃ v nw, (∃ v', v = Value.tuple #[v', ii 0] ∧ CopyIs b l qs p0 p1 ts ps fi tn dd y ow r us v' nw) ∧ FreshM m nw := by
  obtain ⟨v, nw, h, f⟩ := copy_room b l qs p0 p1 ts ps fi tn dd y ow r us m
  exact ⟨_, nw, ⟨v, rfl, h⟩, f⟩
theorem okS_runW {fi : Bool} {ow : Nat → Nat} {ps : List (Nat → Nat)} {sc : Nat → Nat} (hs : B32 sc) : ∀ (q : List Nat) (s : SS) (out : List Nat), okS s → (∀ x ∈ out, x < 256) → okS (runW fi ow ps sc q s out).2.1 ∧ ∀ x ∈ (runW fi ow ps sc q s out).2.2, x < 256
  | [], _, _, h, ho => ⟨h, ho⟩
  | t :: q, s, out, h, ho => by
    rw [runW]
    split
    · exact okS_runW hs q _ _ (okS_tokW h hs) fun x hx => by
        rcases List.mem_append.1 hx with hx | hx
        · exact ho x hx
        · exact tokW_lt x hx
    · exact ⟨okS_tokW h hs, fun x hx => by cases hx⟩
theorem okS_runR {fi : Bool} {ow : Nat → Nat} {ps : List (Nat → Nat)} : ∀ (q : List Nat) (s : SS) (b : List Nat), okS s → (∀ x ∈ b, x < 256) → okS (runR fi ow ps q s b).2.1 ∧ ∀ x ∈ (runR fi ow ps q s b).2.2, x < 256
  | [], _, _, h, hb => ⟨h, hb⟩
  | t :: q, s, b, h, hb => by
    rw [runR]
    split
    · exact okS_runR q _ _ (okS_tokR h hb) (tokR_lt hb)
    · exact ⟨okS_tokR h hb, fun x hx => by cases hx⟩
theorem okS_turnW {fi : Bool} {ow : Nat → Nat} {ps : List (Nat → Nat)} {sc : Nat → Nat} (hs : B32 sc) (q : List Nat) (s : SS) {tx : List Nat} (ht : ∀ x ∈ tx, x < 256) (h : okS s) : okS (turnW fi ow ps sc q s tx).2.1 ∧ ∀ x ∈ (turnW fi ow ps sc q s tx).2.2, x < 256 := by
  have h1 := okS_runW (fi := fi) (ow := ow) (ps := ps) hs q s [] h (fun x hx => by cases hx)
  unfold turnW
  split
  · exact ⟨⟨okY_seal h1.1.1 _, h1.1.2⟩, fun x hx => by
      rcases List.mem_append.1 hx with hx | hx
      · exact h1.2 x hx
      · exact sealP_lt ht x hx⟩
  · exact ⟨h1.1, fun x hx => by cases hx⟩
theorem okS_turnR {fi : Bool} {ow : Nat → Nat} {ps : List (Nat → Nat)} (q : List Nat) (s : SS) {b : List Nat} (hb : ∀ x ∈ b, x < 256) (h : okS s) : okS (turnR fi ow ps q s b).2.1 := by
  have h1 := okS_runR (fi := fi) (ow := ow) (ps := ps) q s b h hb
  unfold turnR
  split
  · exact ⟨okY_open h1.1.1 _, h1.1.2⟩
  · exact h1.1
def oneK : Nat → Nat := fun i => if i = 0 then 1 else 0
theorem oneK_lt : B32 oneK := fun j _ => by unfold oneK; split <;> decide
def nmF : List Nat := [78, 111, 105, 115, 101, 95, 88, 88, 102, 97, 108, 108, 98, 97, 99, 107, 95, 50, 53, 53, 49, 57, 95, 67, 104, 97, 67, 104, 97, 80, 111, 108, 121, 95, 66, 76, 65, 75, 69, 50, 115]
def YX (c : Nat → Nat) : SY := freshP (npk []) (hashP (begY nmF) []) (pubK c)
def RX (c : Nat → Nat) : RS := (c, true, (fun _ => 0), false, (fun _ => 0), false)
def RY (c : Nat → Nat) : RS := ((fun _ => 0), false, (fun _ => 0), false, pubK c, true)
theorem nmF_lt : ∀ x ∈ nmF, x < 256 := by decide
theorem back_x (a c : Nat → Nat) : aheadP true a c (npk []) [1] [] (hashP (begY nmF) [], (fun _ => 0), false, (fun _ => 0), false, (fun _ => 0), false) = (YX c, RX c) := rfl
theorem back_y (b c : Nat → Nat) : aheadP false b (pubK c) (npk []) [1] [] (hashP (begY nmF) [], (fun _ => 0), false, (fun _ => 0), false, (fun _ => 0), false) = (YX c, RY c) := rfl
theorem okY_YX (c : Nat → Nat) : okY (YX c) := okY_fresh (okY_hash (okY_beg nmF_lt) _) _ _
theorem zeros32 : B32 (fun _ => 0) := fun _ _ => zero_byte
theorem okR_RX {c : Nat → Nat} (hc : B32 c) : okR (RX c) := ⟨hc, zeros32, zeros32⟩
theorem okR_RY (c : Nat → Nat) : okR (RY c) := ⟨zeros32, zeros32, pubK_lt c⟩
theorem okC_beg : okC (hashP (begY nmF) []).1 (hashP (begY nmF) []).2.1 (hashP (begY nmF) []).2.2.1 = true := by
  show (false || (decide ((0 : Nat) = 0) && allEq 32 (fun _ => 0) (fun _ => 0))) = true
  decide
theorem back_meet0 {a b c : Nat → Nat} (hc : B32 c) : Meet b a 0 (false, true, false, false) (YX c, RY c, 0) (YX c, RX c, 0) :=
  ⟨rfl, rfl, okC_fresh okC_beg, num_fresh (Nat.le_refl _), rfl, rfl, rfl, rfl, rfl, rfl, (fun h => by cases h), fun _ => ⟨hc, rfl⟩, (fun h => by cases h), (fun h => by cases h)⟩
structure BackIs (a b c d e : Nat → Nat) (tx : List Nat) (z1 z1' z2 z2' : SS) (m1 m2 : List Nat) : Prop where
  w1 : turnW false b [] d [1, 3, 2, 4] (YX c, RY c, 0) tx = (0, z1, m1)
  r1 : turnR true a [] [1, 3, 2, 4] (YX c, RX c, 0) m1 = (0, z1', tx)
  w2 : turnW true a [] e [2, 5] z1' [] = (0, z2, m2)
  r2 : turnR false b [] [2, 5] z1 m2 = (0, z2', [])
  l1 : m1.length ≤ 800
  l2 : m2.length ≤ 800
  b1 : ∀ x ∈ m1, x < 256
  b2 : ∀ x ∈ m2, x < 256
  o1 : okS z1
  o1' : okS z1'
  o2 : okS z2
  o2' : okS z2'
  u1 : z1.2.2 = 0
  u1' : z1'.2.2 = 0
  u2 : z2.2.2 = 0
  u2' : z2'.2.2 = 0
  y2 : z2.1 = z2'.1
  kx : ky z2.2.1.2.2.1 = ky (pubK b)
  kz : ky z2'.2.1.2.2.1 = ky (pubK a)
theorem back_is {a b c d e : Nat → Nat} (ha : B32 a) (hb : B32 b) (hc : B32 c) (hd : B32 d) (he : B32 e) {tx : List Nat} (ht : tx.length ≤ 400) (h8 : ∀ x ∈ tx, x < 256) : ∃ z1 z1' z2 z2' m1 m2, BackIs a b c d e tx z1 z1' z2 z2' m1 m2 := by
  obtain ⟨z1, z1', m1, w1, r1, M1, u1, l1⟩ := turn_meet (fi := false) (ps := []) (sc := d) hb ha hd [1, 3, 2, 4] (back_meet0 (a := a) (b := b) hc) (by decide) (show goodQ false 0 [1, 3, 2, 4] (false, true, false, false) 0 = true by decide) (show tx.length ≤ 800 by omega) h8
  have r1 : turnR true a [] [1, 3, 2, 4] (YX c, RX c, 0) m1 = (0, z1', tx) := r1
  have hu : z1.2.2 = 0 := u1
  have hu' : z1'.2.2 = 0 := by rw [← M1.u]; exact hu
  obtain ⟨z2, z2', m2, w2, r2, M2, u2, l2⟩ := turn_meet (fi := true) (ps := []) (sc := e) ha hb he [2, 5] M1.swap (by decide) (by rw [hu']; exact (by decide : goodQ true 0 [2, 5] (swapF (lastF [1, 3, 2, 4] (false, true, false, false))) 0 = true)) (show ([] : List Nat).length ≤ 800 by decide) (fun x hx => by cases hx)
  have r2 : turnR false b [] [2, 5] z1 m2 = (0, z2', []) := r2
  have hv : z2.2.2 = 0 := by rw [u2, hu']; rfl
  have k1 := okS_turnW (fi := false) (ow := b) (ps := []) hd [1, 3, 2, 4] (YX c, RY c, 0) h8 ⟨okY_YX c, okR_RY c⟩
  rw [w1] at k1
  have k2 := okS_turnR (fi := true) (ow := a) (ps := []) [1, 3, 2, 4] (YX c, RX c, 0) (b := m1) k1.2 ⟨okY_YX c, okR_RX hc⟩
  rw [r1] at k2
  have k3 := okS_turnW (fi := true) (ow := a) (ps := []) he [2, 5] z1' (tx := []) (fun x hx => by cases hx) k2
  rw [w2] at k3
  have k4 := okS_turnR (fi := false) (ow := b) (ps := []) [2, 5] z1 (b := m2) k3.2 k1.1
  rw [r2] at k4
  exact ⟨z1, z1', z2, z2', m1, m2, w1, r1, w2, r2, by simp at l1; omega, by simp at l2; omega, k1.2, k3.2, k1.1, k2, k3.1, k4, hu, hu', hv, by rw [← M2.u]; exact hv, M2.y, M2.lk rfl, M2.jk rfl⟩
end Go.Proofs.YthljakcegoohlabGreatDoor
namespace Go.Proofs.YthljakcegoohlabGreatDoor
open Go.ChangeShapes Go.WideShapes Go.ChangeAt Go.RowKit
section
variable {P : Program} {W : World}
def RdT (P : Program) (W : World) (t : TypeId) (cs : List Value) (d : DataW Unit) : Prop := ∃ fuel p, DataW.trod (fun _ => ()) P W 0 (fun _ => true) false fuel t cs = some (d, p)
def VarT (P : Program) (W : World) (n : String) (d : DataW Unit) : Prop := ∃ g t cs, P.globalNamed n = some g ∧ (P.globals[g]?).map (·.type) = some t ∧ W.var? P n = some cs ∧ RdT P W t cs.toList d
theorem laid_vars : ∀ {l : List (String × DataW Unit)} {ps : List MemPlace}, DataW.LaidVars P W l ps → ∀ x ∈ l, VarT P W x.1 x.2
  | [], _, _, x, hx => absurd hx List.not_mem_nil
  | (n, d) :: r, ps, h, x, hx => by
    obtain ⟨g, t, cs, fuel, p, q, h1, h2, h3, h4, h5, _⟩ := h
    rcases List.mem_cons.1 hx with rfl | hx
    · exact ⟨g, t, cs, h1, h2, h3, fuel, p, h4⟩
    · exact laid_vars h5 x hx
theorem laid_metH {l : List (String × DataW Unit)} (hp : (l.all fun x => x.2.handleName?.isNone) = true) (h : laidMetH P l W) : ∀ x ∈ l, VarT P W x.1 x.2 := by
  rw [MakeChecks.laidMetH_plain _ _ _ hp] at h
  obtain ⟨ps, h1, _⟩ := h
  exact laid_vars h1
theorem cut_one {cs : List Value} {r : Nat} {v : Value} (h : (cs.drop r).take 1 = [v]) : cs[r]? = some v := by
  have h0 : ((cs.drop r).take 1)[0]? = some v := by rw [h]; rfl
  simpa using h0
theorem rd_ints {k : IntKind} {N : Nat} {e T : TypeId} {zs : List Int} {cs : List Value} (hT : P.underlying T = some (.array N e)) (he : P.underlying e = some (.int k)) (hc : P.cellsOf e = 1) (h : RdT P W T cs (.agg (zs.map fun n => .lit (.int k n)))) : ∀ r, r < N → cs[r]? = some (.int k (zs.getD r 0)) := by
  obtain ⟨fuel, p, hd⟩ := h
  obtain ⟨xs, m, _, ex, _, hl, hel⟩ := DataW.trod_array hT hd
  have e3 : (xs.map (·.1)) = zs.map fun n => .lit (.int k n) := (DataW.agg.inj (Prod.mk.inj ex).1).symm
  have hlen : zs.length = N := by
    have := congrArg List.length e3
    simpa [hl] using this.symm
  intro r hr
  have hE := hel r hr
  rw [hc, Nat.mul_one, List.getElem?_eq_getElem (by omega)] at hE
  obtain ⟨z, e1, e2, _⟩ := DataW.trod_int he hE
  have e4 : (xs.map (·.1))[r]? = (zs.map fun n => (DataW.lit (.int k n) : DataW Unit))[r]? := by rw [e3]
  rw [List.getElem?_map, List.getElem?_map, List.getElem?_eq_getElem (by omega : r < xs.length), List.getElem?_eq_getElem (by omega : r < zs.length), e2] at e4
  have hz : z = zs.getD r 0 := by
    simp only [Option.map_some, Option.some.injEq, DataW.lit.injEq, Lit.int.injEq, true_and] at e4
    rw [e4, List.getD, List.getElem?_eq_getElem (by omega : r < zs.length)]; rfl
  rw [← hz]
  exact cut_one e1
theorem rd_rows {k : IntKind} {M N : Nat} {e E T : TypeId} {rs : List (List Int)} {cs : List Value} (hT : P.underlying T = some (.array M E)) (hE : P.underlying E = some (.array N e)) (he : P.underlying e = some (.int k)) (hc : P.cellsOf e = 1) (hcE : P.cellsOf E = N)
    (h : RdT P W T cs (.agg (rs.map fun row => .agg (row.map fun n => .lit (.int k n))))) : ∀ r, r < M * N → cs[r]? = some (.int k ((rs.getD (r / N) []).getD (r % N) 0)) := by
  obtain ⟨fuel, p, hd⟩ := h
  obtain ⟨xs, m, _, ex, _, hl, hel⟩ := DataW.trod_array hT hd
  have e3 : (xs.map (·.1)) = rs.map fun row => .agg (row.map fun n => .lit (.int k n)) := (DataW.agg.inj (Prod.mk.inj ex).1).symm
  have hlen : rs.length = M := by
    have := congrArg List.length e3
    simpa [hl] using this.symm
  intro r hr
  have hN : 0 < N := Nat.pos_of_ne_zero fun h0 => by subst h0; simp at hr
  have hi : r / N < M := Nat.div_lt_of_lt_mul (by rw [Nat.mul_comm]; exact hr)
  have hj : r % N < N := Nat.mod_lt _ hN
  have hR := hel (r / N) hi
  rw [hcE, List.getElem?_eq_getElem (by omega)] at hR
  have e4 : (xs.map (·.1))[r / N]? = (rs.map fun row => (DataW.agg (row.map fun n => .lit (.int k n)) : DataW Unit))[r / N]? := by rw [e3]
  rw [List.getElem?_map, List.getElem?_map, List.getElem?_eq_getElem (by omega : r / N < xs.length), List.getElem?_eq_getElem (by omega : r / N < rs.length)] at e4
  simp only [Option.map_some, Option.some.injEq] at e4
  have hg : rs.getD (r / N) [] = rs[r / N] := by rw [List.getD, List.getElem?_eq_getElem (by omega : r / N < rs.length)]; rfl
  rw [hg]
  have hrow := rd_ints (P := P) (W := W) (zs := rs[r / N]) hE he hc ⟨m, (xs[r / N]).2, by rw [hR, ← e4]⟩ (r % N) hj
  rw [← hrow, List.getElem?_take_of_lt hj, List.getElem?_drop]
  congr 1
  have := Nat.div_add_mod r N
  rw [Nat.mul_comm]; omega
theorem rin_tab {n : String} {g N : Nat} {T : TypeId} {k : IntKind} {f : Nat → Nat} {d : DataW Unit} (hg : P.globalNamed n = some g) (ht : (P.globals[g]?).map (·.type) = some T) (hN : 0 < N) (h : VarT P W n d) (hr : ∀ cs, RdT P W T cs d → ∀ r, r < N → cs[r]? = some (.int k (f r : Int))) : RIn W ⟨g, arr k N f, T⟩ := by
  obtain ⟨g', t, cs, h1, h2, h3, h4⟩ := h
  obtain rfl := Option.some.inj (hg.symm.trans h1)
  obtain rfl := Option.some.inj (ht.symm.trans h2)
  have key : ∀ r, r < N → W.cell? ⟨g, r, none⟩ = some (.int k (f r : Int)) := fun r hrr => by
    rw [World.var?_cell hg h3 r]
    have := hr cs.toList h4 r hrr
    simpa using this
  refine ⟨?_, fun o ho => ?_⟩
  · have h0 := key 0 hN
    unfold World.cell? at h0
    cases hh : W.heap[g]? with
    | none => rw [hh] at h0; cases h0
    | some b => exact (Array.getElem?_eq_some_iff.1 hh).1
  · have ho : o < N := by simpa [arr_size] using ho
    show W.cell? ⟨g, o, none⟩ = (arr k N f)[o]?
    rw [arr_get ho]; exact key o ho
theorem memR_nil : MemR [] W := fun _ h => absurd h List.not_mem_nil
theorem memR_cons {x : Blk} {m : Mem} (h : RIn W x) (hm : MemR m W) : MemR (x :: m) W := fun y hy => by
  rcases List.mem_cons.1 hy with rfl | hy
  · exact h
  · exact hm y hy
theorem memR_app {m m' : Mem} (h : MemR m W) (hm : MemR m' W) : MemR (m ++ m') W := fun y hy => by
  rcases List.mem_append.1 hy with hy | hy
  · exact h y hy
  · exact hm y hy
end
end Go.Proofs.YthljakcegoohlabGreatDoor
namespace Go.Proofs.YthljakcegoohlabGreatDoor
open Go.ChangeShapes Go.WideShapes Go.ChangeAt Go.RowKit
theorem laid_signet_blake_orders_rin {W : World} (h : VarT Tryz.prog W "signet/blake.orders" Rows.laid_signet_blake_orders) : RIn W (⟨1, arr .i64 160 sgf, 190⟩ : Blk) :=
  rin_tab (by kernel_rfl) (by kernel_rfl) (by decide) h fun cs hc r hr => by
    have h1 := rd_rows (M := 10) (N := 16) (rs := [[0, 1, 2, 3, 4, 5, 6, 7, 8, 9, 10, 11, 12, 13, 14, 15], [14, 10, 4, 8, 9, 15, 13, 6, 1, 12, 0, 2, 11, 7, 5, 3], [11, 8, 12, 0, 5, 2, 15, 13, 10, 14, 3, 6, 7, 1, 9, 4], [7, 9, 3, 1, 13, 12, 11, 14, 2, 6, 5, 10, 4, 0, 15, 8], [9, 0, 5, 7, 2, 4, 10, 15, 14, 1, 11, 12, 6, 8, 3, 13], [2, 12, 6, 10, 0, 11, 8, 3, 4, 13, 7, 5, 15, 14, 1, 9], [12, 5, 1, 15, 14, 13, 4, 10, 0, 7, 6, 3, 9, 2, 8, 11], [13, 11, 7, 14, 12, 1, 3, 9, 5, 0, 15, 4, 8, 6, 2, 10], [6, 15, 14, 9, 11, 3, 0, 8, 12, 2, 13, 7, 1, 4, 10, 5], [10, 2, 8, 4, 7, 6, 1, 5, 15, 11, 9, 14, 3, 12, 13, 0]]) (show Tryz.prog.underlying 190 = some (.array 10 189) by kernel_rfl) (show Tryz.prog.underlying 189 = some (.array 16 3) by kernel_rfl) (show Tryz.prog.underlying 3 = some (.int .i64) by kernel_rfl) (show Tryz.prog.cellsOf 3 = 1 by kernel_rfl) (show Tryz.prog.cellsOf 189 = 16 by kernel_rfl) hc r hr
    rw [h1]
    have h2 : ((List.range 160).all fun r => (([[0, 1, 2, 3, 4, 5, 6, 7, 8, 9, 10, 11, 12, 13, 14, 15], [14, 10, 4, 8, 9, 15, 13, 6, 1, 12, 0, 2, 11, 7, 5, 3], [11, 8, 12, 0, 5, 2, 15, 13, 10, 14, 3, 6, 7, 1, 9, 4], [7, 9, 3, 1, 13, 12, 11, 14, 2, 6, 5, 10, 4, 0, 15, 8], [9, 0, 5, 7, 2, 4, 10, 15, 14, 1, 11, 12, 6, 8, 3, 13], [2, 12, 6, 10, 0, 11, 8, 3, 4, 13, 7, 5, 15, 14, 1, 9], [12, 5, 1, 15, 14, 13, 4, 10, 0, 7, 6, 3, 9, 2, 8, 11], [13, 11, 7, 14, 12, 1, 3, 9, 5, 0, 15, 4, 8, 6, 2, 10], [6, 15, 14, 9, 11, 3, 0, 8, 12, 2, 13, 7, 1, 4, 10, 5], [10, 2, 8, 4, 7, 6, 1, 5, 15, 11, 9, 14, 3, 12, 13, 0]] : List (List Int)).getD (r / 16) []).getD (r % 16) 0 == (sgf r : Int)) = true := by decide +kernel
    have h3 := (List.all_eq_true.1 h2) r (List.mem_range.2 hr)
    rw [eq_of_beq h3]
end Go.Proofs.YthljakcegoohlabGreatDoor
namespace Go.Proofs.YthljakcegoohlabGreatDoor
open Go Go.ChangeShapes Go.WideShapes Go.ChangeAt Go.RowKit
section
variable {H : Type} {enc : TypeId × Value → H} {P : Program} {t e : TypeId}
end
end Go.Proofs.YthljakcegoohlabGreatDoor
namespace Go.Proofs.YthljakcegoohlabGreatDoor
open Go Go.ChangeShapes Go.WideShapes Go.ChangeAt Go.RowKit
section
variable {P : Program} {W : World}
theorem shape_int {g : Nat} {t : TypeId} {zero : Array Value} (h : W.ShapedOpen P) (hg : g < P.globals.size)
    (h0 : ((begin P (fun _ _ => 0) default).world.heap[g]?).bind Obj.row? = some (zero, t)) (hz : zero.size = 1)
    (hb : P.buildable t = true) (hc : P.cellTypes P.depth t = some [t]) (hu : P.underlying t = some (.int .i64)) : ∃ m : Int, RIn W ⟨g, #[.int .i64 m], t⟩ := by
  obtain ⟨cs, hh, hs, hr⟩ := h.1 g zero t hg h0
  obtain ⟨ts, hts, _, hall⟩ := hr hb
  rw [hc] at hts
  cases hts
  have h1 : 0 < cs.size := by omega
  obtain ⟨u, hu', hok⟩ := hall 0 cs[0] (by simp [h1])
  have : u = t := by simpa using hu'.symm
  subst this
  have hcell : W.cell? ⟨g, 0, none⟩ = some cs[0] := by simp [World.cell?, hh, h1]
  unfold Cell.ok at hok
  rw [hu] at hok
  obtain ⟨m, hm⟩ : ∃ m : Int, cs[0] = .int .i64 m := by
    cases hv : cs[0] <;> rw [hv] at hok <;> simp at hok
    rename_i k z
    exact ⟨z, by rw [hok.1]⟩
  refine ⟨m, (Array.getElem?_eq_some_iff.1 hh).1, fun o ho => ?_⟩
  have : o = 0 := by simpa using ho
  subst this
  rw [hcell, hm]; rfl
end
section
variable {H : Type} {enc : TypeId × Value → H} {P : Program} {t : TypeId}
end
end Go.Proofs.YthljakcegoohlabGreatDoor
namespace Go.Proofs.YthljakcegoohlabGreatDoor
open Go Go.ChangeShapes Go.WideShapes Go.ChangeAt Go.RowKit
section
variable {H : Type} {enc : TypeId × Value → H} {P : Program} {w : World} {base : Nat} {spare : Nat → Bool} {held : Bool}
theorem trodAll_five {t0 t1 t2 t3 t4 : TypeId} {args : Array Value} {ds : List (DataW H)} {ps : List MemPlace} (h : DataW.TrodAll enc P w base spare held [t0, t1, t2, t3, t4] args.toList ds ps) :
    ∃ v0 v1 v2 v3 v4 d0 d1 d2 d3 d4 p0 p1 p2 p3 p4, args = #[v0, v1, v2, v3, v4] ∧ ds = [d0, d1, d2, d3, d4] ∧ ps = p0 ++ p1 ++ p2 ++ p3 ++ p4 ∧ DataW.Trod enc P w base spare held t0 v0 d0 p0 ∧ DataW.Trod enc P w base spare held t1 v1 d1 p1 ∧ DataW.Trod enc P w base spare held t2 v2 d2 p2 ∧ DataW.Trod enc P w base spare held t3 v3 d3 p3 ∧ DataW.Trod enc P w base spare held t4 v4 d4 p4 := by
  obtain ⟨v0, vs0, d0, ds0, p0, q0, hargs, rfl, rfl, h0, hr0⟩ := trodAll_cons h
  obtain ⟨v1, vs1, d1, ds1, p1, q1, rfl, rfl, rfl, h1, hr1⟩ := trodAll_cons hr0
  obtain ⟨v2, vs2, d2, ds2, p2, q2, rfl, rfl, rfl, h2, hr2⟩ := trodAll_cons hr1
  obtain ⟨v3, vs3, d3, ds3, p3, q3, rfl, rfl, rfl, h3, hr3⟩ := trodAll_cons hr2
  obtain ⟨v4, vs4, d4, ds4, p4, q4, rfl, rfl, rfl, h4, hr4⟩ := trodAll_cons hr3
  obtain ⟨rfl, rfl, rfl⟩ := trodAll_nil hr4
  exact ⟨v0, v1, v2, v3, v4, d0, d1, d2, d3, d4, p0, p1, p2, p3, p4, by cases args; simp_all, rfl, by simp, h0, h1, h2, h3, h4⟩
theorem trodAll_mk5 {t0 t1 t2 t3 t4 : TypeId} {v0 v1 v2 v3 v4 : Value} {d0 d1 d2 d3 d4 : DataW H} {p0 p1 p2 p3 p4 : List MemPlace} (h0 : DataW.Trod enc P w base spare held t0 v0 d0 p0) (h1 : DataW.Trod enc P w base spare held t1 v1 d1 p1) (h2 : DataW.Trod enc P w base spare held t2 v2 d2 p2) (h3 : DataW.Trod enc P w base spare held t3 v3 d3 p3) (h4 : DataW.Trod enc P w base spare held t4 v4 d4 p4) : DataW.TrodAll enc P w base spare held [t0, t1, t2, t3, t4] [v0, v1, v2, v3, v4] [d0, d1, d2, d3, d4] (p0 ++ (p1 ++ (p2 ++ (p3 ++ p4)))) := ⟨p0, (p1 ++ (p2 ++ (p3 ++ p4))), h0, trodAll_mk4 h1 h2 h3 h4, rfl⟩
end
end Go.Proofs.YthljakcegoohlabGreatDoor
/-
  Facts on this program's types, in tables.
-/
namespace Go.Proofs.YthljakcegoohlabGreatDoor
open Go Go.RowKit
def lkT {α : Type} : List (Nat × α) → Nat → Option α
  | [], _ => none
  | (k, a) :: l, t => bif Nat.beq k t then some a else lkT l t
theorem lkT_map {α : Type} {f : Nat → Option α} : ∀ {L : List (Nat × α)} {t : Nat} {d : α}, L.map (fun p => f p.1) = L.map (fun p => some p.2) → lkT L t = some d → f t = some d
  | [], _, _, _, h => by cases h
  | (k, a) :: L, t, d, h, hk => by
    rw [List.map_cons, List.map_cons, List.cons.injEq] at h
    unfold lkT at hk
    cases hb : Nat.beq k t with
    | true => rw [hb] at hk; rw [← Nat.eq_of_beq_eq_true hb, h.1]; exact hk
    | false => rw [hb] at hk; exact lkT_map h.2 hk
theorem mixed : Tryz.prog.follows .mixedOrders = true := by kernel_rfl
def tbu : List (Nat × TypeDesc) := [(3, (.int .i64)), (4, (.bool)), (5, (.int .u8)), (9, (.string)), (22, (.array 32 5)), (23, (.slice 3)), (24, (.array 2 23)), (25, (.slice 23)), (27, (.struct #[.mk "Base" 9 0 false "" "" 0, .mk "Late" 4 1 false "" "" 16, .mk "Psks" 23 2 false "" "" 24, .mk "Pre" 24 3 false "" "" 48, .mk "Turns" 25 5 false "" "" 96])), (28, (.array 32 5)), (29, (.int .u64)), (31, (.struct #[.mk "Has" 4 0 false "" "" 0, .mk "Key" 28 1 false "" "" 1, .mk "N" 29 33 false "" "" 40])), (33, (.struct #[.mk "Cipher" 31 0 false "" "" 0, .mk "Chain" 28 34 false "" "" 48, .mk "Hash" 28 66 false "" "" 80])), (34, (.slice 28)), (36, (.struct #[.mk "Pattern" 27 0 false "" "" 0, .mk "First" 4 6 false "" "" 120, .mk "Turn" 3 7 false "" "" 128, .mk "Dead" 4 8 false "" "" 136, .mk "Sym" 33 9 false "" "" 144, .mk "Own" 28 107 false "" "" 256, .mk "Fresh" 28 139 false "" "" 288, .mk "Has" 4 171 false "" "" 320, .mk "Their" 28 172 false "" "" 321, .mk "Knows" 4 204 false "" "" 353, .mk "Newest" 28 205 false "" "" 354, .mk "Saw" 4 237 false "" "" 386, .mk "Psks" 34 238 false "" "" 392, .mk "Used" 3 239 false "" "" 416])), (41, (.slice 5)), (46, (.array 2 31)), (70, (.array 4 29)), (73, (.array 2 70)), (75, (.array 2 73)), (84, (.array 2 28)), (116, (.array 3 28)), (123, (.int .u32)), (124, (.array 8 123)), (125, (.array 64 5)), (127, (.struct #[.mk "H" 124 0 false "" "" 0, .mk "Held" 125 8 false "" "" 32, .mk "N" 3 72 false "" "" 96, .mk "Len" 3 73 false "" "" 104])), (130, (.slice 41)), (132, (.int .u64)), (139, (.array 3 4)), (140, (.array 2 139)), (141, (.array 8 4)), (143, (.struct #[.mk "keys" 140 0 false "" "signet/pattern" 0, .mk "been" 141 6 false "" "signet/pattern" 6])), (165, (.array 64 5)), (170, (.array 16 123)), (174, (.array 8 29)), (181, (.array 12 5)), (184, (.array 16 5)), (189, (.array 16 3)), (190, (.array 10 189)), (192, (.array 2 3)), (199, (.array 16 123)), (202, (.array 2 29)), (203, (.array 3 29)), (205, (.struct #[.mk "R" 202 0 false "" "" 0, .mk "Pad" 202 2 false "" "" 16, .mk "Acc" 203 4 false "" "" 32, .mk "Held" 184 7 false "" "" 56, .mk "N" 3 23 false "" "" 72])), (219, (.array 3 29)), (225, (.array 5 29))]
theorem tbu_ok : tbu.map (fun p => (fun t => Tryz.prog.underlying t) p.1) = tbu.map (fun p => some p.2) := by kernel_rfl
set_option maxRecDepth 100000 in
theorem Tu {T : TypeId} {d : TypeDesc} (h : lkT tbu T = some d) : Tryz.prog.underlying T = some d := lkT_map (L := tbu) (f := fun t => Tryz.prog.underlying t) tbu_ok h
theorem Uu (T : TypeId) {d : TypeDesc} (h : lkT tbu T = some d := by rfl) : Tryz.prog.underlying T = some d := Tu h
def tbz : List (Nat × Nat) := [(3, 1), (4, 1), (5, 1), (9, 1), (22, 32), (23, 1), (24, 2), (25, 1), (27, 6), (28, 32), (29, 1), (31, 34), (33, 98), (34, 1), (36, 240), (41, 1), (46, 68), (70, 4), (73, 8), (75, 16), (84, 64), (116, 96), (123, 1), (124, 8), (125, 64), (127, 74), (139, 3), (140, 6), (141, 8), (165, 64), (170, 16), (174, 8), (181, 12), (184, 16), (189, 16), (192, 2), (199, 16), (202, 2), (203, 3), (205, 24), (219, 3), (225, 5)]
theorem tbz_ok : tbz.map (fun p => (fun t => (Tryz.prog.info? t).map (·.size)) p.1) = tbz.map (fun p => some p.2) := by kernel_rfl
set_option maxRecDepth 100000 in
theorem Tz {T : TypeId} {d : Nat} (h : lkT tbz T = some d) : (Tryz.prog.info? T).map (·.size) = some d := lkT_map (L := tbz) (f := fun t => (Tryz.prog.info? t).map (·.size)) tbz_ok h
theorem Uz (T : TypeId) {d : Nat} (h : lkT tbz T = some d := by rfl) : (Tryz.prog.info? T).map (·.size) = some d := Tz h
def tby : List (Nat × Nat) := [(3, 8), (5, 1), (23, 24), (28, 32)]
theorem tby_ok : tby.map (fun p => (fun t => (Tryz.prog.info? t).map (·.bytes)) p.1) = tby.map (fun p => some p.2) := by kernel_rfl
set_option maxRecDepth 100000 in
theorem Ty {T : TypeId} {d : Nat} (h : lkT tby T = some d) : (Tryz.prog.info? T).map (·.bytes) = some d := lkT_map (L := tby) (f := fun t => (Tryz.prog.info? t).map (·.bytes)) tby_ok h
theorem Uy (T : TypeId) {d : Nat} (h : lkT tby T = some d := by rfl) : (Tryz.prog.info? T).map (·.bytes) = some d := Ty h
def tbb : List (Nat × Value) := [(3, (.int .i64 0)), (5, (.int .u8 0)), (22, (.agg (arr .u8 32 fun _ => 0))), (23, (.slice none 0 0)), (24, (.agg #[.slice none 0 0, .slice none 0 0])), (27, (.agg (cells 6 [pV (.string ByteArray.empty), pV (.bool false), pV (.slice none 0 0), pV (.slice none 0 0), pV (.slice none 0 0), pV (.slice none 0 0)]))), (28, (.agg (arr .u8 32 fun _ => 0))), (31, (.agg (cells 34 [pV (.bool false), pI .u8 32 fun _ => 0, pV (.int .u64 0)]))), (33, (.agg (cells 98 [pV (.bool false), pI .u8 32 fun _ => 0, pV (.int .u64 0), pI .u8 32 fun _ => 0, pI .u8 32 fun _ => 0]))), (36, (.agg (cells 240 [pV (.string ByteArray.empty), pV (.bool false), pV (.slice none 0 0), pV (.slice none 0 0), pV (.slice none 0 0), pV (.slice none 0 0), pV (.bool false), pV (.int .i64 0), pV (.bool false), pV (.bool false), pI .u8 32 fun _ => 0, pV (.int .u64 0), pI .u8 32 fun _ => 0, pI .u8 32 fun _ => 0, pI .u8 32 fun _ => 0, pI .u8 32 fun _ => 0, pV (.bool false), pI .u8 32 fun _ => 0, pV (.bool false), pI .u8 32 fun _ => 0, pV (.bool false), pV (.slice none 0 0), pV (.int .i64 0)]))), (41, (.slice none 0 0)), (46, (.agg (cells 68 [pV (.bool false), pI .u8 32 fun _ => 0, pV (.int .u64 0), pV (.bool false), pI .u8 32 fun _ => 0, pV (.int .u64 0)]))), (70, (.agg (arr .u64 4 fun _ => 0))), (73, (.agg (arr .u64 8 fun _ => 0))), (75, (.agg (arr .u64 16 fun _ => 0))), (84, (.agg (arr .u8 64 fun _ => 0))), (116, (.agg (arr .u8 96 fun _ => 0))), (124, (.agg (arr .u32 8 fun _ => 0))), (125, (.agg (arr .u8 64 fun _ => 0))), (127, (.agg (cells 74 [pI .u32 8 fun _ => 0, pI .u8 64 fun _ => 0, pV (.int .i64 0), pV (.int .i64 0)]))), (143, (.agg (arrv 14 fun _ => .bool false))), (165, (.agg (arr .u8 64 fun _ => 0))), (170, (.agg (arr .u32 16 fun _ => 0))), (174, (.agg (arr .u64 8 fun _ => 0))), (181, (.agg (arr .u8 12 fun _ => 0))), (184, (.agg (arr .u8 16 fun _ => 0))), (192, (.agg (arr .i64 2 fun _ => 0))), (199, (.agg (arr .u32 16 fun _ => 0))), (202, (.agg (arr .u64 2 fun _ => 0))), (205, (.agg (cells 24 [pI .u64 2 fun _ => 0, pI .u64 2 fun _ => 0, pI .u64 3 fun _ => 0, pI .u8 16 fun _ => 0, pV (.int .i64 0)]))), (219, (.agg (arr .u64 3 fun _ => 0))), (225, (.agg (arr .u64 5 fun _ => 0)))]
theorem tbb_ok : tbb.map (fun p => (fun t => (Tryz.prog.info? t).bind (·.zero)) p.1) = tbb.map (fun p => some p.2) := by kernel_rfl
set_option maxRecDepth 100000 in
theorem Tb {T : TypeId} {d : Value} (h : lkT tbb T = some d) : (Tryz.prog.info? T).bind (·.zero) = some d := lkT_map (L := tbb) (f := fun t => (Tryz.prog.info? t).bind (·.zero)) tbb_ok h
theorem Ub (T : TypeId) {d : Value} (h : lkT tbb T = some d := by rfl) : (Tryz.prog.info? T).bind (·.zero) = some d := Tb h
def tbn : List Nat := [4, 5, 6, 7, 8, 9, 10, 11, 12, 13, 14, 15, 16, 17, 18, 19, 20, 21, 22, 23, 24, 25, 26, 27, 28, 29, 30, 31, 32, 33, 34, 35, 36, 37, 38, 39, 40, 41, 42, 43, 44, 45, 46, 47, 48, 49, 50, 51, 52, 53, 54, 55, 56, 57, 58, 59, 60, 61, 62, 63, 64, 65, 66, 67, 68, 69, 70, 71, 72, 73, 74, 75, 76, 77, 78, 79, 80, 81, 82, 83, 84, 85, 86, 87, 88, 89, 90, 91, 92, 93, 94, 95, 96, 97, 98, 99, 101, 102, 103, 104, 105, 106, 109, 110, 111, 112, 113, 114, 115, 116, 117, 118, 119, 120, 121, 122, 123, 125, 126, 127, 128, 129, 130, 131, 132, 133, 134, 135, 136, 137, 138, 139, 140, 141, 142, 143, 144, 145, 146, 147, 148, 149, 150, 151, 152, 153, 154, 155, 156, 157, 158, 159, 160, 161, 162, 163, 164, 165, 166, 167]
theorem tbn_ok : tbn.all (fun f => enters Tryz.prog f) = true := by kernel_rfl
theorem Un (f : FuncId) (h : tbn.contains f = true := by rfl) : enters Tryz.prog f = true := List.all_eq_true.1 tbn_ok f (List.contains_iff_mem.1 h)
end Go.Proofs.YthljakcegoohlabGreatDoor
