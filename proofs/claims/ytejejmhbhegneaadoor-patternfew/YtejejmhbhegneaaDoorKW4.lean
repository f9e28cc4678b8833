import Derived.Test.YtejejmhbhegneaaDoorKW3
import Derived.Lib.Join
import Derived.ProofKit
import Derived.OpenShut
import Derived.LaidMore
import Derived.Lay
import Derived.MakeChecks
import Derived.Test.YtejejmhbhegneaaDoorRows
import Derived.Shelf.Strings.OnBuilder
namespace Go.Proofs.YtejejmhbhegneaaDoor
open Go Go.RowKit
def okK (k m : Nat) : Bool :=
  let n := nmK k
  let ps := psK k m
  decide (pparse (pname n (ci ps)) = (0, n, ps)) && decide (pfault (decide (n = nXF)) (ci (wq n (ci ps) 0)) (ci (wq n (ci ps) 1)) ((wt n (ci ps)).map ci) = 0) && decide (((wt n (ci ps)).map (fun q => q.count 7)).sum = ps.length) && decide ((pname n (ci ps)).length ≤ 100) && decide (∀ b ∈ pname n (ci ps), b < 256)
theorem okK_all : ∀ k, k < 6 → ∀ m, m < 16 → okK k m = true := by decide +kernel
theorem okK_open {k m : Nat} (hk : k < 6) (hm : m < 16) : pparse (pname (nmK k) (ci (psK k m))) = (0, nmK k, psK k m) ∧ pfault (decide (nmK k = nXF)) (ci (wq (nmK k) (ci (psK k m)) 0)) (ci (wq (nmK k) (ci (psK k m)) 1)) ((wt (nmK k) (ci (psK k m))).map ci) = 0 ∧ ((wt (nmK k) (ci (psK k m))).map (fun q => q.count 7)).sum = (psK k m).length ∧ (pname (nmK k) (ci (psK k m))).length ≤ 100 ∧ ∀ b ∈ pname (nmK k) (ci (psK k m)), b < 256 := by
  have h := okK_all k hk m hm
  simp only [okK, Bool.and_eq_true, decide_eq_true_eq] at h
  exact ⟨h.1.1.1.1, h.1.1.1.2, h.1.1.2, h.1.2, h.2⟩
def cntT (us : List (List Nat)) (i : Nat) : Nat := ((us.take i).map (fun q => q.count 7)).sum
theorem cntT_next {us : List (List Nat)} {i : Nat} (h : i < us.length) : cntT us i + (us.getD i []).count 7 = cntT us (i + 1) := by
  unfold cntT
  rw [List.take_succ_eq_append_getElem h, List.map_append, List.sum_append, List.getD_eq_getElem?_getD, List.getElem?_eq_getElem h]; simp
theorem cntT_all (us : List (List Nat)) : cntT us us.length = (us.map (fun q => q.count 7)).sum := by unfold cntT; rw [List.take_length]
theorem cnt_le : ∀ us : List (List Nat), ∀ i, cntT us i ≤ (us.map (fun q => q.length)).sum := fun us i => by
  unfold cntT
  induction us generalizing i with
  | nil => simp
  | cons q us ih =>
    cases i with
    | zero => simp
    | succ i =>
      have := ih i
      have := List.count_le_length (a := 7) (l := q)
      simp only [List.take_succ_cons, List.map_cons, List.sum_cons]; omega
theorem count_take_next {q : List Nat} {j : Nat} (h : j < q.length) : (q.take (j + 1)).count 7 = (q.take j).count 7 + if q.getD j 0 = 7 then 1 else 0 := by
  rw [List.take_succ_eq_append_getElem h, List.count_append, List.getD_eq_getElem?_getD, List.getElem?_eq_getElem h]
  simp [List.count_cons]
theorem back_sizes {n : List Nat} {pk q0 q1 : List Nat} {us : List (List Nat)} {t : Nat} (h : shortT (pwith n (ci pk)).2 46 ∧ 4 ≤ (pwith n (ci pk)).2.length ∧ (pwith n (ci pk)).2.length ≤ 5) (hp : pk.length ≤ t + 1) (ht : t ≤ 3) (h0 : q0 = wq n (ci pk) 0) (h1 : q1 = wq n (ci pk) 1) (hu : us = wt n (ci pk)) : us.length ≤ 1000 ∧ pk.length ≤ 1000 ∧ q0.length ≤ 1000 ∧ q1.length ≤ 1000 ∧ ∀ q ∈ us, q.length ≤ 1000 := by
  subst h0 h1 hu
  have s0 := (short_at (i := 0) h.1).2
  have s1 := (short_at (i := 1) h.1).2
  have t0 : (wq n (ci pk) 0).length ≤ 8 * ((pwith n (ci pk)).2.getD 0 []).length := toks_len _
  have t1 : (wq n (ci pk) 1).length ≤ 8 * ((pwith n (ci pk)).2.getD 1 []).length := toks_len _
  refine ⟨by simp only [List.length_map, List.length_drop]; omega, by omega, by omega, by omega, fun q hq => by have := toks_small h.1 q hq; omega⟩
theorem sizes_up {us : List (List Nat)} {pk q0 q1 : List Nat} (h : us.length ≤ 1000 ∧ pk.length ≤ 1000 ∧ q0.length ≤ 1000 ∧ q1.length ≤ 1000 ∧ ∀ q ∈ us, q.length ≤ 1000) : us.length ≤ 9223372036854775807 ∧ pk.length ≤ 9223372036854775807 ∧ q0.length ≤ 9223372036854775807 ∧ q1.length ≤ 9223372036854775807 ∧ ∀ q ∈ us, q.length ≤ 9223372036854775807 :=
  ⟨by omega, by omega, by omega, by omega, fun q hq => by have := h.2.2.2.2 q hq; omega⟩
theorem pat_sizes1000 {us : List (List Nat)} {ps q0 q1 : List Nat} (h : us.length ≤ 1000 ∧ ps.length ≤ 1000 ∧ q0.length ≤ 1000 ∧ q1.length ≤ 1000 ∧ ∀ q ∈ us, q.length ≤ 1000) : (us.map ci).length ≤ 1000000 ∧ ∀ l ∈ ci ps :: ci q0 :: ci q1 :: us.map ci, l.length ≤ 1000000 := by
  obtain ⟨h1, h2, h3, h4, h5⟩ := h
  refine ⟨by simp; omega, fun l hl => ?_⟩
  rcases List.mem_cons.1 hl with rfl | hl
  · simp [ci]; omega
  rcases List.mem_cons.1 hl with rfl | hl
  · simp [ci]; omega
  rcases List.mem_cons.1 hl with rfl | hl
  · simp [ci]; omega
  obtain ⟨q, hq, rfl⟩ := List.mem_map.1 hl
  have := h5 q hq
  simp [ci]; omega
theorem sum_le : ∀ {us : List (List Nat)}, (∀ q ∈ us, q.length ≤ 1000) → (us.map (fun q => q.length)).sum ≤ 1000 * us.length
  | [], _ => by simp
  | q :: us, h => by
    have := sum_le (us := us) (fun x hx => h x (List.mem_cons_of_mem _ hx))
    have := h q List.mem_cons_self
    simp only [List.map_cons, List.sum_cons, List.length_cons]; omega
theorem sum_small {us : List (List Nat)} (h : ∀ q ∈ us, q.length ≤ 1000) (hl : us.length ≤ 1000) : (us.map (fun q => q.length)).sum ≤ 1000000 := by
  have := sum_le h
  omega
theorem take_small {us : List (List Nat)} (h : ∀ q ∈ us, q.length ≤ 1000) (i j : Nat) : ((us.getD i []).take j).length ≤ 1000 := by
  have : (us.getD i []).length ≤ 1000 := by
    rw [List.getD_eq_getElem?_getD]
    cases e : us[i]? with
    | none => simp
    | some q => exact h q (List.mem_of_getElem? e)
  rw [List.length_take]; omega
end Go.Proofs.YtejejmhbhegneaaDoor
namespace Go.Proofs.YtejejmhbhegneaaDoor
open Go Go.RowKit
def pck (t : Nat) (last : Int) : List Int → Nat
  | [] => 0
  | n :: r => if n < 0 ∨ (t : Int) < n then 6 else if n ≤ last then 3 else pck t n r
theorem pfold_pck : ∀ (ps : List Int) (L : List (List Nat)) (last : Int), (pfold L last ps).1 = pck (L.length - 2) last ps
  | [], _, _ => rfl
  | n :: r, L, last => by
    rw [pfold, pck]
    by_cases h : n < 0 ∨ ((L.length - 2 : Nat) : Int) < n
    · rw [if_pos h, if_pos h]
    · rw [if_neg h, if_neg h]
      by_cases h2 : n ≤ last
      · rw [if_pos h2, if_pos h2]
      · rw [if_neg h2, if_neg h2, pfold_pck r (insT L n) n, insT_len]
def pchk (t : Nat) (ps : List Int) : Nat := if 4 < ps.length then 1 else pck t (-1) ps
theorem pwith_pchk {n : List Nat} {ps : List Int} (h : ptext n ≠ []) : (pwith n ps).1 = pchk ((pbase n).length - 2) ps := by
  rw [pwith, if_neg h, pchk]
  by_cases h4 : 4 < ps.length
  · rw [if_pos h4, if_pos h4]
  · rw [if_neg h4, if_neg h4, pfold_pck]
theorem pck_bound : ∀ {ps : List Int} {t : Nat} {last : Int}, pck t last ps = 0 → ∀ n ∈ ps, 0 ≤ n ∧ n ≤ (t : Int)
  | [], _, _, _, n, hn => by simp at hn
  | m :: r, t, last, h, n, hn => by
    rw [pck] at h
    by_cases h1 : m < 0 ∨ (t : Int) < m
    · rw [if_pos h1] at h; cases h
    · rw [if_neg h1] at h
      by_cases h2 : m ≤ last
      · rw [if_pos h2] at h; cases h
      · rw [if_neg h2] at h
        rcases List.mem_cons.1 hn with rfl | hn
        · omega
        · exact pck_bound h n hn
theorem pchk_bound {ps : List Int} {t : Nat} (h : pchk t ps = 0) : ps.length ≤ 4 ∧ ∀ i, i < ps.length → 0 ≤ ps.getD i 0 ∧ ps.getD i 0 ≤ (t : Int) := by
  rw [pchk] at h
  by_cases h4 : 4 < ps.length
  · rw [if_pos h4] at h; cases h
  · rw [if_neg h4] at h
    refine ⟨by omega, fun i hi => pck_bound h _ ?_⟩
    rw [List.getD_eq_getElem?_getD, List.getElem?_eq_getElem hi]; exact List.getElem_mem hi
theorem pck_range {t : Nat} {last : Int} {ps : List Int} {i : Nat} (h : i < ps.length) (hx : ps.getD i 0 < 0 ∨ (t : Int) < ps.getD i 0) : pck t last (ps.drop i) = 6 := by
  rw [drop_int h, pck, if_pos hx]
theorem pck_form {t : Nat} {last : Int} {ps : List Int} {i : Nat} (h : i < ps.length) (hx : ¬ (ps.getD i 0 < 0 ∨ (t : Int) < ps.getD i 0)) (hl : ps.getD i 0 ≤ last) : pck t last (ps.drop i) = 3 := by
  rw [drop_int h, pck, if_neg hx, if_pos hl]
theorem pck_step {t : Nat} {last : Int} {ps : List Int} {i : Nat} (h : i < ps.length) (hx : ¬ (ps.getD i 0 < 0 ∨ (t : Int) < ps.getD i 0)) (hl : ¬ ps.getD i 0 ≤ last) : pck t last (ps.drop i) = pck t (ps.getD i 0) (ps.drop (i + 1)) := by
  rw [drop_int h, pck, if_neg hx, if_neg hl]
theorem pck_end {t : Nat} {last : Int} {ps : List Int} {i : Nat} (h : i = ps.length) : pck t last (ps.drop i) = 0 := by
  rw [h, List.drop_length, pck]
def lastP (ps : List Int) (i : Nat) : Int := if i = 0 then -1 else ps.getD (i - 1) 0
theorem last_yes {ps : List Int} {i : Nat} (h : (decide ((0 : Int) < (i : Int)) && decide (ps.getD i 0 ≤ ps.getD (i - 1) 0)) = true) : ps.getD i 0 ≤ lastP ps i := by
  rw [Bool.and_eq_true, decide_eq_true_eq, decide_eq_true_eq] at h
  rw [lastP, if_neg (by omega)]; exact h.2
theorem last_no {ps : List Int} {i t : Nat} (hx : ¬ (ps.getD i 0 < 0 ∨ (t : Int) < ps.getD i 0)) (h : (decide ((0 : Int) < (i : Int)) && decide (ps.getD i 0 ≤ ps.getD (i - 1) 0)) = false) : ¬ ps.getD i 0 ≤ lastP ps i := by
  by_cases e : i = 0
  · rw [lastP, if_pos e]; omega
  · rw [lastP, if_neg e]
    rw [decide_eq_true (by omega), Bool.true_and, decide_eq_false_iff_not] at h
    exact h
def insU (us : List (List Nat)) (n : Int) : List (List Nat) := if n = 0 then us.set 0 (7 :: us.getD 0 []) else us.set (n.toNat - 1) (us.getD (n.toNat - 1) [] ++ [7])
theorem insU_len (us : List (List Nat)) (n : Int) : (insU us n).length = us.length := by unfold insU; split <;> simp
theorem insU_zero {us : List (List Nat)} {n : Int} (h : n = 0) : insU us n = us.set 0 (7 :: us.getD 0 []) := if_pos h
theorem insU_more {us : List (List Nat)} {n : Int} {k : Nat} (h : n ≠ 0) (hk : n = (k : Int)) : insU us n = us.set (k - 1) (us.getD (k - 1) [] ++ [7]) := by
  subst hk; rw [insU, if_neg h]; rfl
theorem psk_word : ∀ b ∈ ([112, 115, 107] : List Nat), asp b = 0 := by decide
theorem toks_head (w : List Nat) : toks ([112, 115, 107, 32] ++ w) = 7 :: toks w := by
  have h : fldGo [] ([112, 115, 107] ++ (32 :: w)) = [112, 115, 107] :: fldGo [] w := by
    rw [fld_app [112, 115, 107] [] (32 :: w) psk_word]
    simp [fldGo, asp]
  unfold toks fieldsL
  rw [show ([112, 115, 107, 32] ++ w : List Nat) = [112, 115, 107] ++ (32 :: w) from rfl, h, List.flatMap_cons]
  rfl
theorem fld_tail : ∀ (w cur : List Nat), fldGo cur (w ++ [32, 112, 115, 107]) = fldGo cur w ++ [[112, 115, 107]]
  | [], cur => by
    by_cases h : cur = [] <;> simp [fldGo, asp, h]
  | b :: w, cur => by
    rw [List.cons_append, fldGo, fldGo]
    by_cases h : asp b = 0
    · rw [if_pos h, if_pos h]
      exact fld_tail w (cur ++ [b])
    · rw [if_neg h, if_neg h, fld_tail w []]
      split <;> rfl
theorem toks_tail (w : List Nat) : toks (w ++ [32, 112, 115, 107]) = toks w ++ [7] := by
  unfold toks fieldsL
  rw [fld_tail, List.flatMap_append]
  rfl
theorem map_drop_set {L : List (List Nat)} {j : Nat} {w : List Nat} (f : List Nat → List Nat) (h : 2 ≤ j) : ((L.set j w).drop 2).map f = ((L.drop 2).map f).set (j - 2) (f w) := by
  rw [List.drop_set, if_neg (by omega), List.map_set]
theorem drop2_at {L : List (List Nat)} {j : Nat} (f : List Nat → List Nat) (h : j + 2 < L.length) : ((L.drop 2).map f).getD j [] = f (L.getD (j + 2) []) := by
  have h2 : j < (L.drop 2).length := by rw [List.length_drop]; omega
  rw [List.getD_eq_getElem?_getD, List.getElem?_map, List.getElem?_drop, Nat.add_comm 2 j, List.getD_eq_getElem?_getD, List.getElem?_eq_getElem h]
  rfl
theorem insT_insU {L : List (List Nat)} {n : Int} (h3 : 3 ≤ L.length) (h0 : 0 ≤ n) (hn : n ≤ ((L.length - 2 : Nat) : Int)) :
    ((insT L n).drop 2).map toks = insU ((L.drop 2).map toks) n ∧ (insT L n).getD 0 [] = L.getD 0 [] ∧ (insT L n).getD 1 [] = L.getD 1 [] := by
  have other : ∀ {j k : Nat} {w : List Nat}, j ≠ k → (L.set j w).getD k [] = L.getD k [] := fun {j k w} hj => by
    rw [List.getD_eq_getElem?_getD, List.getElem?_set_ne hj, ← List.getD_eq_getElem?_getD]
  by_cases e : n = 0
  · rw [insT_zero e, insU_zero e]
    refine ⟨?_, other (by omega), other (by omega)⟩
    rw [map_drop_set toks (Nat.le_refl 2), toks_head, drop2_at toks (by omega)]
  · obtain ⟨k, rfl⟩ : ∃ k : Nat, n = (k : Int) := ⟨n.toNat, by omega⟩
    rw [insT_more e rfl, insU_more e rfl]
    refine ⟨?_, other (by omega), other (by omega)⟩
    rw [map_drop_set toks (by omega), toks_tail, show 1 + k - 2 = k - 1 by omega, drop2_at toks (by omega), show k - 1 + 2 = 1 + k by omega]
theorem pfold_rows : ∀ (ps : List Int) (L : List (List Nat)) (last : Int), 3 ≤ L.length → (pfold L last ps).1 = 0 →
    ((pfold L last ps).2.drop 2).map toks = ps.foldl insU ((L.drop 2).map toks) ∧ (pfold L last ps).2.getD 0 [] = L.getD 0 [] ∧ (pfold L last ps).2.getD 1 [] = L.getD 1 []
  | [], L, _, _, _ => ⟨rfl, rfl, rfl⟩
  | n :: r, L, last, h3, h => by
    rw [pfold] at h ⊢
    by_cases h1 : n < 0 ∨ ((L.length - 2 : Nat) : Int) < n
    · rw [if_pos h1] at h; cases h
    · rw [if_neg h1] at h ⊢
      by_cases h2 : n ≤ last
      · rw [if_pos h2] at h; cases h
      · rw [if_neg h2] at h ⊢
        obtain ⟨a1, a2, a3⟩ := insT_insU (L := L) (n := n) h3 (by omega) (by omega)
        obtain ⟨b1, b2, b3⟩ := pfold_rows r (insT L n) n (by rw [insT_len]; exact h3) h
        rw [List.foldl_cons, b1, b2, b3, a1, a2, a3]
        exact ⟨rfl, rfl, rfl⟩
def bU (n : List Nat) : List (List Nat) := ((pbase n).drop 2).map toks
def bQ (n : List Nat) (i : Nat) : List Nat := toks ((pbase n).getD i [])
theorem with_rows {n : List Nat} {ps : List Int} (h : (pwith n ps).1 = 0) : wt n ps = ps.foldl insU (bU n) ∧ wq n ps 0 = bQ n 0 ∧ wq n ps 1 = bQ n 1 := by
  obtain ⟨h0, h4, _⟩ := pwith_in h
  obtain ⟨hb1, _⟩ := pbase_ok h0
  have e : pwith n ps = pfold (pbase n) (-1) ps := by rw [pwith, if_neg h0, if_neg (by omega)]
  rw [e] at h
  obtain ⟨a1, a2, a3⟩ := pfold_rows ps (pbase n) (-1) (by omega) h
  refine ⟨by unfold wt bU; rw [e]; exact a1, by unfold wq bQ; rw [e, a2], by unfold wq bQ; rw [e, a3]⟩
theorem bU_len {n : List Nat} (h : ptext n ≠ []) : (bU n).length = (pbase n).length - 2 ∧ 2 ≤ (bU n).length ∧ (bU n).length ≤ 3 ∧ ∀ q ∈ bU n, q.length ≤ 4 := by
  rcases ptext_in h with rfl | rfl | rfl | rfl | rfl | rfl | rfl <;> decide +kernel
theorem foldU_len (ps : List Int) : ∀ us : List (List Nat), (ps.foldl insU us).length = us.length := by
  induction ps with
  | nil => intro us; rfl
  | cons n r ih => intro us; rw [List.foldl_cons, ih, insU_len]
theorem fold_step {us : List (List Nat)} {ps : List Int} {i : Nat} (h : i < ps.length) : (ps.take (i + 1)).foldl insU us = insU ((ps.take i).foldl insU us) (ps.getD i 0) := by
  rw [List.take_add_one, List.getElem?_eq_getElem h, List.foldl_append, List.getD_eq_getElem?_getD, List.getElem?_eq_getElem h]; rfl
theorem insU_row {us : List (List Nat)} {n : Int} {k : Nat} (h : ∀ q ∈ us, q.length ≤ k) : ∀ q ∈ insU us n, q.length ≤ k + 1 := by
  have at_ : ∀ j, (us.getD j []).length ≤ k := fun j => by
    by_cases hj : j < us.length
    · rw [List.getD_eq_getElem?_getD, List.getElem?_eq_getElem hj]; exact h _ (List.getElem_mem hj)
    · rw [List.getD_eq_getElem?_getD, List.getElem?_eq_none (by omega)]; exact Nat.zero_le _
  intro q hq
  unfold insU at hq
  split at hq
  · rcases List.mem_or_eq_of_mem_set hq with h1 | rfl
    · have := h q h1; omega
    · have := at_ 0; simp only [List.length_cons]; omega
  · rcases List.mem_or_eq_of_mem_set hq with h1 | rfl
    · have := h q h1; omega
    · have := at_ (n.toNat - 1); simp only [List.length_append, List.length_cons, List.length_nil]; omega
end Go.Proofs.YtejejmhbhegneaaDoor
namespace Go.Proofs.YtejejmhbhegneaaDoor
open Go Go.RowKit
def hasP (l p : List Nat) : Bool := decide ((p.length : Int) ≤ l.length) && decide (l.take p.length = p)
def cutP (l p : List Nat) : List Nat := if hasP l p = true then l.drop p.length else l
def hasZ (l p : List Nat) : Bool := decide ((p.length : Int) ≤ l.length) && decide (l.drop (l.length - p.length) = p)
def cutZ (l p : List Nat) : List Nat := if hasZ l p = true then l.take (l.length - p.length) else l
theorem hasP_len {l p : List Nat} (h : hasP l p = true) : p.length ≤ l.length ∧ l.take p.length = p := by
  simp only [hasP, Bool.and_eq_true, decide_eq_true_eq] at h
  exact ⟨by omega, h.2⟩
theorem hasZ_len {l p : List Nat} (h : hasZ l p = true) : p.length ≤ l.length ∧ l.drop (l.length - p.length) = p := by
  simp only [hasZ, Bool.and_eq_true, decide_eq_true_eq] at h
  exact ⟨by omega, h.2⟩
theorem cutP_len (l p : List Nat) : (cutP l p).length ≤ l.length := by unfold cutP; split <;> simp
theorem cutP_mem {l p : List Nat} {b : Nat} (h : b ∈ cutP l p) : b ∈ l := by
  unfold cutP at h
  split at h
  · exact List.mem_of_mem_drop h
  · exact h
theorem bad1_cut (n : List Nat) : bad1 n = (!(hasP n hdN) || !(hasZ (cutP n hdN) tlN)) := by
  have e6 : hdN.length = 6 := rfl
  have e25 : tlN.length = 25 := rfl
  cases h : hasP n hdN with
  | false =>
    simp only [hasP, Bool.and_eq_false_iff, decide_eq_false_iff_not, e6] at h
    rcases h with h | h
    · have : decide ((n.length : Int) < 6) = true := decide_eq_true (by omega)
      rw [bad1, this]; simp
    · have : decide (n.take 6 ≠ hdN) = true := decide_eq_true h
      rw [bad1, this]; simp
  | true =>
    obtain ⟨h1, h2⟩ := hasP_len h
    rw [e6] at h1 h2
    have c : cutP n hdN = n.drop 6 := by rw [cutP, if_pos h]; rfl
    have q1 : decide ((n.length : Int) < 6) = false := decide_eq_false (by omega)
    have q2 : decide (n.take 6 ≠ hdN) = false := decide_eq_false (fun x => x h2)
    rw [bad1, q1, q2, c, hasZ, e25]
    have l1 : (n.drop 6).length = n.length - 6 := List.length_drop
    by_cases h31 : n.length < 31
    · have q3 : decide ((n.length : Int) < 31) = true := decide_eq_true (by omega)
      have q4 : decide (((25 : Nat) : Int) ≤ ((n.drop 6).length : Int)) = false := decide_eq_false (by omega)
      rw [q3, q4]; rfl
    · have q3 : decide ((n.length : Int) < 31) = false := decide_eq_false (by omega)
      have q4 : decide (((25 : Nat) : Int) ≤ ((n.drop 6).length : Int)) = true := decide_eq_true (by omega)
      have e : (n.drop 6).drop ((n.drop 6).length - 25) = n.drop (n.length - 25) := by
        rw [List.drop_drop, l1]; congr 1; omega
      rw [q3, q4, e]
      by_cases ht : n.drop (n.length - 25) = tlN
      · rw [decide_eq_true ht, decide_eq_false (fun x => x ht)]; rfl
      · rw [decide_eq_false ht, decide_eq_true ht]; rfl
theorem mid_cut {n : List Nat} (h : bad1 n = false) : cutZ (cutP n hdN) tlN = midN n := by
  rw [bad1_cut] at h
  simp only [Bool.or_eq_false_iff, Bool.not_eq_false'] at h
  rw [cutZ, if_pos h.2, cutP, if_pos h.1, midN, show hdN.length = 6 from rfl, show tlN.length = 25 from rfl, List.length_drop, show n.length - 6 - 25 = n.length - 25 - 6 by omega]
def cutA (l : List Nat) (c : Nat) : List Nat := match ixb l c with | some i => l.take i | none => l
def cutB (l : List Nat) (c : Nat) : List Nat := match ixb l c with | some i => l.drop (i + 1) | none => []
theorem ixb_no : ∀ {l : List Nat} {c : Nat}, ixb l c = none → l.count c = 0
  | [], _, _ => rfl
  | b :: l, c, h => by
    rw [ixb] at h
    by_cases e : b = c
    · rw [if_pos e] at h; cases h
    · rw [if_neg e] at h
      rw [List.count_cons_of_ne (by simpa using e)]
      refine ixb_no (l := l) ?_
      cases h2 : ixb l c with
      | none => rfl
      | some j => rw [h2] at h; cases h
def plBad (w : List Nat) : Bool := !(hasP w PSK) || decide (((cutP w PSK).length : Int) ≠ 1) || decide (((cutP w PSK).getD 0 0 : Int) < 48) || decide ((57 : Int) < ((cutP w PSK).getD 0 0 : Int))
def plD (w : List Nat) : Nat := (cutP w PSK).getD 0 0 - 48
theorem plBad_no {w : List Nat} (h : plBad w = false) : ∃ d, w = [112, 115, 107, d] ∧ 48 ≤ d ∧ d ≤ 57 := by
  simp only [plBad, Bool.or_eq_false_iff, Bool.not_eq_false', decide_eq_false_iff_not] at h
  obtain ⟨⟨⟨h1, h2⟩, h3⟩, h4⟩ := h
  have hc : cutP w PSK = w.drop 3 := by rw [cutP, if_pos h1]; rfl
  obtain ⟨h5, h6⟩ := hasP_len h1
  rw [show PSK.length = 3 from rfl] at h5 h6
  rw [hc] at h2 h3 h4
  have h7 : (w.drop 3).length = 1 := by omega
  obtain ⟨d, hd⟩ := List.length_eq_one_iff.1 h7
  rw [hd] at h3 h4
  refine ⟨d, ?_, by simp at h3; omega, by simp at h4; omega⟩
  rw [← List.take_append_drop 3 w, h6, hd]; rfl
theorem plBad_yes {d : Nat} (h1 : 48 ≤ d) (h2 : d ≤ 57) : plBad [112, 115, 107, d] = false ∧ plD [112, 115, 107, d] = d - 48 := by
  have hp : hasP [112, 115, 107, d] PSK = true := by simp [hasP]
  have hc : cutP [112, 115, 107, d] PSK = [d] := by rw [cutP, if_pos hp]; rfl
  refine ⟨?_, by rw [plD, hc]; rfl⟩
  rw [plBad, hp, hc]
  have q1 : decide (((([d] : List Nat).getD 0 0 : Nat) : Int) < 48) = false := decide_eq_false (by simp; omega)
  have q2 : decide ((57 : Int) < ((([d] : List Nat).getD 0 0 : Nat) : Int)) = false := decide_eq_false (by simp; omega)
  rw [q1, q2]; rfl
def plAll : List (List Nat) → Option (List Nat)
  | [] => some []
  | w :: r => if plBad w = true then none else (plAll r).map (plD w :: ·)
theorem bad5_piece {w r : List Nat} (h : w.count 43 = 0) : bad5 (w ++ 43 :: r) = plBad w ∧ (plBad w = false → (w ++ 43 :: r).getD 3 0 - 48 = plD w ∧ (w ++ 43 :: r).drop 5 = r) := by
  cases hb : plBad w with
  | false =>
    obtain ⟨d, rfl, h1, h2⟩ := plBad_no hb
    have q1 : decide (((([112, 115, 107, d] ++ 43 :: r : List Nat).getD 3 0 : Nat) : Int) < 48) = false := decide_eq_false (by simp; omega)
    have q2 : decide ((57 : Int) < ((([112, 115, 107, d] ++ 43 :: r : List Nat).getD 3 0 : Nat) : Int)) = false := decide_eq_false (by simp; omega)
    refine ⟨?_, fun _ => ⟨by rw [(plBad_yes h1 h2).2]; rfl, rfl⟩⟩
    rw [bad5, q1, q2]
    have q3 : decide ((([112, 115, 107, d] ++ 43 :: r : List Nat).length : Int) < 5) = false := decide_eq_false (by simp; omega)
    rw [q3]; rfl
  | true =>
    refine ⟨?_, fun x => by cases x⟩
    cases h5 : bad5 (w ++ 43 :: r) with
    | true => rfl
    | false =>
      exfalso
      simp only [bad5, Bool.or_eq_false_iff, decide_eq_false_iff_not] at h5
      obtain ⟨⟨⟨⟨g1, g2⟩, g3⟩, g4⟩, g5⟩ := h5
      have no : ∀ {x : Nat}, x ∈ w → x ≠ 43 := fun {x} hx e => by
        subst e
        have := List.count_pos_iff.2 hx
        omega
      match w, h, hb, g1, g2, g3, g4, g5, @no with
      | [], _, _, _, g2, _, _, _, _ => simp at g2
      | [a], _, _, _, g2, _, _, _, _ => simp at g2
      | [a, b], _, _, _, g2, _, _, _, _ => simp at g2
      | [a, b, c], _, _, _, _, _, g4, _, _ => simp at g4
      | [a, b, c, d], _, hb, _, g2, _, g4, g5, _ =>
        simp at g2 g4 g5
        obtain ⟨rfl, rfl, rfl⟩ := g2
        rw [(plBad_yes (d := d) (by omega) (by omega)).1] at hb; cases hb
      | a :: b :: c :: d :: e :: w, _, _, _, _, g3, _, _, no =>
        simp at g3
        exact no (x := e) (by simp) (by omega)
theorem count_take {l : List Nat} {c i : Nat} (h : ixb l c = some i) : (l.take i).count c = 0 := by
  induction l generalizing i with
  | nil => simp [ixb] at h
  | cons b l ih =>
    rw [ixb] at h
    by_cases e : b = c
    · rw [if_pos e] at h; injection h with h; subst h; rfl
    · rw [if_neg e] at h
      cases h2 : ixb l c with
      | none => rw [h2] at h; cases h
      | some j =>
        rw [h2] at h
        have : i = j + 1 := by simpa using h.symm
        subst this
        rw [List.take_succ_cons, List.count_cons_of_ne (by simpa using e)]
        exact ih h2
theorem ixb_cut {l : List Nat} {c i : Nat} (h : ixb l c = some i) : l = l.take i ++ c :: l.drop (i + 1) := by
  obtain ⟨h1, h2⟩ := ixb_at h
  have : l.drop i = c :: l.drop (i + 1) := by rw [drop_at1 h1, h2]
  rw [← this, List.take_append_drop]
theorem mods_pieces (k : Nat) : ∀ (m : List Nat), m.length ≤ k → mods (m ++ [43]) = plAll (splitB m 43) := by
  induction k with
  | zero =>
    intro m hk
    obtain rfl : m = [] := List.length_eq_zero_iff.1 (by omega)
    rfl
  | succ k ih =>
    intro m hk
    cases hi : ixb m 43 with
    | none =>
      have h0 := ixb_no hi
      obtain ⟨h1, h2⟩ := bad5_piece (w := m) (r := []) h0
      rw [splitB_none h0, plAll, plAll]
      cases hb : plBad m with
      | true => rw [mods_bad (by simp) (by rw [h1, hb]), if_pos rfl]
      | false => rw [mods_more (by simp) (by rw [h1, hb]), (h2 hb).1, (h2 hb).2, if_neg (by decide)]; rfl
    | some i =>
      have h0 := count_take hi
      have hl := (ixb_at hi).1
      obtain ⟨h1, h2⟩ := bad5_piece (w := m.take i) (r := m.drop (i + 1) ++ [43]) h0
      have e : m ++ [43] = m.take i ++ 43 :: (m.drop (i + 1) ++ [43]) := by
        conv => lhs; rw [ixb_cut hi]
        simp
      rw [splitB_some hi, plAll, e]
      cases hb : plBad (m.take i) with
      | true => rw [mods_bad (by simp) (by rw [h1, hb]), if_pos rfl]
      | false =>
        rw [mods_more (by simp) (by rw [h1, hb]), (h2 hb).1, (h2 hb).2, if_neg (by decide)]
        rw [ih (m.drop (i + 1)) (by rw [List.length_drop]; omega)]
theorem pl_some {all : Option (List Nat)} {pre S : List Nat} {i : Nat} (h : all = mapC pre (plAll (splitB S 43))) (hi : ixb S 43 = some i) (hb : plBad (S.take i) = false) : all = mapC (pre ++ [plD (S.take i)]) (plAll (splitB (S.drop (i + 1)) 43)) := by
  rw [h, splitB_some hi, plAll, if_neg (by rw [hb]; decide)]
  cases plAll (splitB (S.drop (i + 1)) 43) with
  | none => rfl
  | some x => simp [mapC]
theorem pl_last {all : Option (List Nat)} {pre S : List Nat} (h : all = mapC pre (plAll (splitB S 43))) (hi : ixb S 43 = none) (hb : plBad S = false) : all = some (pre ++ [plD S]) := by
  rw [h, splitB_none (ixb_no hi), plAll, if_neg (by rw [hb]; decide), plAll]
  rfl
theorem pl_bad {all : Option (List Nat)} {pre S : List Nat} (h : all = mapC pre (plAll (splitB S 43))) (hb : plBad (cutA S 43) = true) : all = none := by
  cases hi : ixb S 43 with
  | none =>
    rw [cutA, hi] at hb
    rw [h, splitB_none (ixb_no hi), plAll, if_pos hb]; rfl
  | some i =>
    rw [cutA, hi] at hb
    rw [h, splitB_some hi, plAll, if_pos hb]; rfl
theorem pl_next {all : Option (List Nat)} {pre S : List Nat} (h : all = mapC pre (plAll (splitB S 43))) (hs : (ixb S 43).isSome = true) (hb : plBad (cutA S 43) = false) : all = mapC (pre ++ [plD (cutA S 43)]) (plAll (splitB (cutB S 43) 43)) ∧ (cutB S 43).length < S.length := by
  cases hi : ixb S 43 with
  | none => rw [hi] at hs; cases hs
  | some i =>
    have hl := (ixb_at hi).1
    rw [cutA, hi] at hb
    rw [cutA, cutB, hi]
    exact ⟨pl_some h hi hb, by rw [List.length_drop]; omega⟩
theorem pl_fin {all : Option (List Nat)} {pre S : List Nat} (h : all = mapC pre (plAll (splitB S 43))) (hs : (ixb S 43).isSome = false) (hb : plBad (cutA S 43) = false) : all = some (pre ++ [plD (cutA S 43)]) := by
  cases hi : ixb S 43 with
  | some i => rw [hi] at hs; cases hs
  | none =>
    rw [cutA, hi] at hb
    rw [cutA, hi]
    exact pl_last h hi hb
theorem cutA_mem {S : List Nat} {c b : Nat} (h : b ∈ cutA S c) : b ∈ S := by
  unfold cutA at h
  split at h
  · exact List.mem_of_mem_take h
  · exact h
theorem cutB_mem {S : List Nat} {c b : Nat} (h : b ∈ cutB S c) : b ∈ S := by
  unfold cutB at h
  split at h
  · exact List.mem_of_mem_drop h
  · simp at h
theorem plD_in {w : List Nat} (h : plBad w = false) : (cutP w PSK).length = 1 ∧ 48 ≤ (cutP w PSK).getD 0 0 ∧ (cutP w PSK).getD 0 0 ≤ 57 := by
  simp only [plBad, Bool.or_eq_false_iff, Bool.not_eq_false', decide_eq_false_iff_not] at h
  obtain ⟨⟨⟨_, h2⟩, h3⟩, h4⟩ := h
  omega
theorem take5 {pre : List Nat} {x : Nat} (h : ¬ (pre.take 5).length ≤ 4) : (pre ++ [x]).take 5 = pre.take 5 := by
  have : 5 ≤ pre.length := by rw [List.length_take] at h; omega
  rw [List.take_append_of_le_length this]
theorem take5_more {pre : List Nat} {x : Nat} (h : (pre.take 5).length ≤ 4) : (pre ++ [x]).take 5 = pre.take 5 ++ [x] := by
  have : pre.length ≤ 4 := by rw [List.length_take] at h; omega
  rw [List.take_of_length_le (by simp; omega), List.take_of_length_le (by omega)]
theorem pwith_take5 (b ds : List Nat) : pwith b (ci (ds.take 5)) = pwith b (ci ds) := by
  by_cases h : ds.length ≤ 5
  · rw [List.take_of_length_le h]
  · unfold pwith
    by_cases h0 : ptext b = []
    · rw [if_pos h0, if_pos h0]
    · rw [if_neg h0, if_neg h0, if_pos (by simp only [ci, List.length_map, List.length_take]; omega), if_pos (by simp only [ci, List.length_map]; omega)]
theorem take5_ok {b ds : List Nat} (h : (pwith b (ci ds)).1 = 0) : ds.take 5 = ds := by
  have := (pwith_in h).2.1
  exact List.take_of_length_le (by simp only [ci, List.length_map] at this; omega)
def joinL (c : Nat) : List (List Nat) → List Nat
  | [] => []
  | w :: r => w ++ r.flatMap (c :: ·)
def pskW (n : Int) : List Nat := [112, 115, 107, pskD n]
theorem join_pmd (ps : List Int) : ∀ i, i ≤ ps.length → joinL 43 ((ps.take i).map pskW) = pmd ps i
  | 0, _ => by simp [joinL, pmd]
  | i + 1, h => by
    rw [pmd, ← join_pmd ps i (by omega)]
    have e : (ps.take (i + 1)).map pskW = (ps.take i).map pskW ++ [pskW (ps.getD i 0)] := by
      rw [List.take_add_one, List.getElem?_eq_getElem (by omega), List.map_append, List.getD_eq_getElem?_getD, List.getElem?_eq_getElem (by omega)]; rfl
    rw [e]
    cases i with
    | zero => simp [joinL, pskW]
    | succ i =>
      rw [if_pos (by omega)]
      cases hw : (ps.take (i + 1)).map pskW with
      | nil =>
        have := congrArg List.length hw
        rw [List.length_map, List.length_take, List.length_nil] at this
        omega
      | cons w r => simp [joinL, List.append_assoc, pskW]
theorem join_all (ps : List Int) : joinL 43 (ps.map pskW) = pmd ps ps.length := by
  rw [← join_pmd ps ps.length (Nat.le_refl _), List.take_length]
theorem psk_next {ps : List Int} {i : Nat} (h : i < ps.length) : (ps.take (i + 1)).map pskW = (ps.take i).map pskW ++ [pskW (ps.getD i 0)] := by
  rw [List.take_add_one, List.getElem?_eq_getElem h, List.map_append, List.getD_eq_getElem?_getD, List.getElem?_eq_getElem h]; rfl
theorem dig_at {z : Nat} (h : z ≤ 9) : (([48, 49, 50, 51, 52, 53, 54, 55, 56, 57, 97, 98, 99, 100, 101, 102, 103, 104, 105, 106, 107, 108, 109, 110, 111, 112, 113, 114, 115, 116, 117, 118, 119, 120, 121, 122] : List Nat).drop z).take (z + 1 - z) = [48 + z] := by
  have : z = 0 ∨ z = 1 ∨ z = 2 ∨ z = 3 ∨ z = 4 ∨ z = 5 ∨ z = 6 ∨ z = 7 ∨ z = 8 ∨ z = 9 := by omega
  rcases this with rfl | rfl | rfl | rfl | rfl | rfl | rfl | rfl | rfl | rfl <;> rfl
theorem joinL_lib : ∀ ws : List (List Nat), Lib.join (ws.map fun w => w.map UInt8.ofNat) [43] = (joinL 43 ws).map UInt8.ofNat
  | [] => rfl
  | w :: r => by
    rw [List.map_cons, Lib.join_cons, joinL, List.map_append]
    congr 1
    induction r with
    | nil => rfl
    | cons x r ih =>
      rw [Lib.joinTail] at ih ⊢
      rw [List.map_cons, List.map_cons, List.flatten_cons, ih, List.flatMap_cons, List.map_append, List.map_cons]
      rfl
theorem pskD_small {n : Int} (h0 : 0 ≤ n) (h9 : n ≤ 9) : pskD n = 48 + n.toNat := by
  unfold pskD; omega
end Go.Proofs.YtejejmhbhegneaaDoor
namespace Go.Proofs.YtejejmhbhegneaaDoor
open Go Go.RowKit
theorem Fx.wide {P : Program} {G G' l0 : Mem} {f : FuncId} {args : Array Value} {S : Value → Mem → Mem → Prop} (h : Fx P G l0 f args S) (hG : ∀ x ∈ G, x ∈ G') : Fx P G' l0 f args S := fun w hw hi hn hd => h w (fun x hx => hw x (hG x hx)) hi hn fun x hx => hd x (hG x hx)
abbrev iis (q : List Nat) : List Value := q.map fun x : Nat => ii x
theorem iis_one (q : List Nat) : ∀ u ∈ iis q, u.oneCell' = true := fun u hu => by
  obtain ⟨n, _, rfl⟩ := List.mem_map.1 hu; rfl
abbrev slv (r n : Nat) : Value := .slice (some ⟨r, 0, none⟩) n n
theorem own_lit (ti : TypeId) (r : Nat) (q : List Nat) (h : q.length ≤ 100) : OwnS ti 1 (slv r q.length) q.length (iis q) (some (⟨r, (iis q).toArray, ti⟩ : Blk)).toList :=
  .inr ⟨r, q.length, (iis q).toArray, rfl, rfl, Nat.le_refl _, by simp only [maxLen]; omega, by simp, by simp, by rw [Nat.mul_one]; exact List.take_of_length_le (by simp)⟩
def ox (o0 o1 o2 : Option Blk) (i : Nat) : Option Blk := if i = 0 then o0 else if i = 1 then o1 else if i = 2 then o2 else none
def RowsIs (ti : TypeId) (TF : Nat → Value) (us : List (List Nat)) (o0 o1 o2 : Option Blk) : Prop := ∀ i, i < us.length → OwnS ti 1 (TF i) (us.getD i []).length (iis (us.getD i [])) (ox o0 o1 o2 i).toList
def BaseIs (ti tr : TypeId) (l : List Nat) (late : Bool) (q0 q1 : List Nat) (us : List (List Nat)) (v : Value) (os : List (Option Blk)) : Prop :=
  ∃ va vb TF oa ob o0 o1 o2 rT, v = .agg (patC l late nilS va vb (slv rT us.length)) ∧ os = [oa, ob, o0, o1, o2, some ⟨rT, arrv us.length TF, tr⟩] ∧ OwnS ti 1 va q0.length (iis q0) oa.toList ∧ OwnS ti 1 vb q1.length (iis q1) ob.toList ∧ RowsIs ti TF us o0 o1 o2
theorem base_two {ti tr : TypeId} {l : List Nat} {late : Bool} {q0 q1 : List Nat} {va vb : Value} {oa ob : Option Blk} {r0 r1 rT : Nat} (a b : List Nat) (hA : OwnS ti 1 va q0.length (iis q0) oa.toList) (hB : OwnS ti 1 vb q1.length (iis q1) ob.toList) (ha : a.length ≤ 100) (hb : b.length ≤ 100) :
    BaseIs ti tr l late q0 q1 [a, b] (.agg (patC l late nilS va vb (slv rT 2))) [oa, ob, some ⟨r0, (iis a).toArray, ti⟩, some ⟨r1, (iis b).toArray, ti⟩, none, some ⟨rT, #[slv r0 a.length, slv r1 b.length], tr⟩] :=
  ⟨va, vb, fun i => if i = 0 then slv r0 a.length else slv r1 b.length, oa, ob, _, _, none, rT, rfl, rfl, hA, hB, fun i hi => by
    match i, hi with
    | 0, _ => exact own_lit ti r0 a ha
    | 1, _ => exact own_lit ti r1 b hb
    | i + 2, hi => exact absurd hi (by simp)⟩
theorem base_three {ti tr : TypeId} {l : List Nat} {late : Bool} {q0 q1 : List Nat} {va vb : Value} {oa ob : Option Blk} {r0 r1 r2 rT : Nat} (a b c : List Nat) (hA : OwnS ti 1 va q0.length (iis q0) oa.toList) (hB : OwnS ti 1 vb q1.length (iis q1) ob.toList) (ha : a.length ≤ 100) (hb : b.length ≤ 100) (hc : c.length ≤ 100) :
    BaseIs ti tr l late q0 q1 [a, b, c] (.agg (patC l late nilS va vb (slv rT 3))) [oa, ob, some ⟨r0, (iis a).toArray, ti⟩, some ⟨r1, (iis b).toArray, ti⟩, some ⟨r2, (iis c).toArray, ti⟩, some ⟨rT, #[slv r0 a.length, slv r1 b.length, slv r2 c.length], tr⟩] :=
  ⟨va, vb, fun i => if i = 0 then slv r0 a.length else if i = 1 then slv r1 b.length else slv r2 c.length, oa, ob, _, _, _, rT, rfl, rfl, hA, hB, fun i hi => by
    match i, hi with
    | 0, _ => exact own_lit ti r0 a ha
    | 1, _ => exact own_lit ti r1 b hb
    | 2, _ => exact own_lit ti r2 c hc
    | i + 3, hi => exact absurd hi (by simp)⟩
theorem tab_NN : bQ nNN 0 = [] ∧ bQ nNN 1 = [] ∧ bU nNN = [[1], [1, 3]] := by decide +kernel
theorem tab_NK : bQ nNK 0 = [] ∧ bQ nNK 1 = [2] ∧ bU nNK = [[1, 4], [1, 3]] := by decide +kernel
theorem tab_XX : bQ nXX 0 = [] ∧ bQ nXX 1 = [] ∧ bU nXX = [[1], [1, 3, 2, 4], [2, 5]] := by decide +kernel
theorem tab_IK : bQ nIK 0 = [] ∧ bQ nIK 1 = [2] ∧ bU nIK = [[1, 4, 2, 6], [1, 3, 5]] := by decide +kernel
theorem tab_XK : bQ nXK 0 = [] ∧ bQ nXK 1 = [2] ∧ bU nXK = [[1, 4], [1, 3], [2, 5]] := by decide +kernel
theorem tab_KK : bQ nKK 0 = [2] ∧ bQ nKK 1 = [2] ∧ bU nKK = [[1, 4, 6], [1, 3, 5]] := by decide +kernel
theorem tab_XF : bQ nXF 0 = [1] ∧ bQ nXF 1 = [] ∧ bU nXF = [[1, 3, 2, 4], [2, 5]] := by decide +kernel
theorem ptext_no {n : List Nat} (h0 : n ≠ nNN) (h1 : n ≠ nNK) (h2 : n ≠ nXX) (h3 : n ≠ nIK) (h4 : n ≠ nXK) (h5 : n ≠ nKK) (h6 : n ≠ nXF) : ptext n = [] := by
  cases h : ptext n with
  | nil => rfl
  | cons a b =>
    rcases ptext_in (n := n) (by rw [h]; simp) with e | e | e | e | e | e | e
    · exact absurd e h0
    · exact absurd e h1
    · exact absurd e h2
    · exact absurd e h3
    · exact absurd e h4
    · exact absurd e h5
    · exact absurd e h6
theorem bQ_len {n : List Nat} (h : ptext n ≠ []) : (bQ n 0).length ≤ 1 ∧ (bQ n 1).length ≤ 1 := by
  rcases ptext_in h with rfl | rfl | rfl | rfl | rfl | rfl | rfl
  · rw [tab_NN.1, tab_NN.2.1]; decide
  · rw [tab_NK.1, tab_NK.2.1]; decide
  · rw [tab_XX.1, tab_XX.2.1]; decide
  · rw [tab_IK.1, tab_IK.2.1]; decide
  · rw [tab_XK.1, tab_XK.2.1]; decide
  · rw [tab_KK.1, tab_KK.2.1]; decide
  · rw [tab_XF.1, tab_XF.2.1]; decide
theorem own_fresh (m : Mem) (ti : TypeId) (q : List Nat) (h : q.length ≤ 1000) : ∃ v oz, OwnS ti 1 v q.length (iis q) (Option.toList oz) ∧ FreshM m (Option.toList oz) := by
  obtain ⟨r, hr⟩ := fresh_of m
  refine ⟨slv r q.length, some ⟨r, (iis q).toArray, ti⟩, .inr ⟨r, q.length, (iis q).toArray, rfl, rfl, Nat.le_refl _, by simp only [maxLen]; omega, by simp, by simp, by rw [Nat.mul_one]; exact List.take_of_length_le (by simp)⟩, by simp, fun x hx y hy => ?_⟩
  simp at hx; subst hx; exact hr y hy
theorem owns_fresh (ti : TypeId) : ∀ (qs : List (List Nat)) (m : Mem), (∀ q ∈ qs, q.length ≤ 1000) → ∃ (vs : List Value) (os : List (Option Blk)), vs.length = qs.length ∧ os.length = qs.length ∧ (∀ i, i < qs.length → OwnS ti 1 (vs.getD i undef) (qs.getD i []).length (iis (qs.getD i [])) (os.getD i none).toList) ∧ FreshM m (flatO os)
  | [], m, _ => ⟨[], [], rfl, rfl, fun i hi => absurd hi (by simp), fresh_nil m⟩
  | q :: qs, m, h => by
    obtain ⟨v, oz, h1, h2⟩ := own_fresh m ti q (h q List.mem_cons_self)
    obtain ⟨vs, os, h3, h4, h5, h6⟩ := owns_fresh ti qs (m ++ oz.toList) (fun x hx => h x (List.mem_cons_of_mem _ hx))
    refine ⟨v :: vs, oz :: os, by simp [h3], by simp [h4], fun i hi => ?_, by rw [flatO]; exact fresh_cat h2 h6⟩
    match i with
    | 0 => exact h1
    | i + 1 => exact h5 i (by simpa using hi)
theorem base_room (ti tr : TypeId) (l : List Nat) (late : Bool) (q0 q1 : List Nat) (us : List (List Nat)) (u : Value) (h0 : q0.length ≤ 100) (h1 : q1.length ≤ 100) (hu : ∀ q ∈ us, q.length ≤ 100) (hl : us.length = 2 ∨ us.length = 3) (m : Mem) : ∃ v os, (∃ v', v = Value.tuple #[v', u] ∧ BaseIs ti tr l late q0 q1 us v' os) ∧ FreshM m (flatO os) := by
  obtain ⟨vs, os, g1, g2, g3, g4⟩ := owns_fresh ti (q0 :: q1 :: us) m (fun q hq => by
    rcases List.mem_cons.1 hq with rfl | hq
    · omega
    rcases List.mem_cons.1 hq with rfl | hq
    · omega
    · have := hu q hq; omega)
  obtain ⟨rT, hrT⟩ := fresh_of (m ++ flatO os)
  have fT : ∀ c : Array Value, FreshM (m ++ flatO os) [(⟨rT, c, tr⟩ : Blk)] := fun c => ⟨by simp, fun x hx y hy => by simp at hx; subst hx; exact hrT y hy⟩
  have hA := g3 0 (by simp)
  have hB := g3 1 (by simp)
  rcases hl with hl | hl
  · match us, hl, os, g2 with
    | [a, b], _, [oa, ob, o0, o1], _ =>
      refine ⟨_, [oa, ob, o0, o1, none, some ⟨rT, arrv 2 (fun i => vs.getD (i + 2) undef), tr⟩], ⟨_, rfl, vs.getD 0 undef, vs.getD 1 undef, fun i => vs.getD (i + 2) undef, oa, ob, o0, o1, none, rT, rfl, rfl, hA, hB, fun i hi => ?_⟩, ?_⟩
      · match i, hi with
        | 0, _ => exact g3 2 (by simp)
        | 1, _ => exact g3 3 (by simp)
        | i + 2, hi => exact absurd hi (by simp)
      · have e : flatO [oa, ob, o0, o1, none, some (⟨rT, arrv 2 (fun i => vs.getD (i + 2) undef), tr⟩ : Blk)] = flatO [oa, ob, o0, o1] ++ [(⟨rT, arrv 2 (fun i => vs.getD (i + 2) undef), tr⟩ : Blk)] := by simp [flatO]
        rw [e]; exact fresh_cat g4 (fT _)
  · match us, hl, os, g2 with
    | [a, b, c], _, [oa, ob, o0, o1, o2], _ =>
      refine ⟨_, [oa, ob, o0, o1, o2, some ⟨rT, arrv 3 (fun i => vs.getD (i + 2) undef), tr⟩], ⟨_, rfl, vs.getD 0 undef, vs.getD 1 undef, fun i => vs.getD (i + 2) undef, oa, ob, o0, o1, o2, rT, rfl, rfl, hA, hB, fun i hi => ?_⟩, ?_⟩
      · match i, hi with
        | 0, _ => exact g3 2 (by simp)
        | 1, _ => exact g3 3 (by simp)
        | 2, _ => exact g3 4 (by simp)
        | i + 3, hi => exact absurd hi (by simp)
      · have e : flatO [oa, ob, o0, o1, o2, some (⟨rT, arrv 3 (fun i => vs.getD (i + 2) undef), tr⟩ : Blk)] = flatO [oa, ob, o0, o1, o2] ++ [(⟨rT, arrv 3 (fun i => vs.getD (i + 2) undef), tr⟩ : Blk)] := by simp [flatO]
        rw [e]; exact fresh_cat g4 (fT _)
def insR (n : Nat) (q : List Nat) : List Nat := if n = 0 then 7 :: q else q ++ [7]
theorem insR_len (n : Nat) (q : List Nat) : (insR n q).length = q.length + 1 := by unfold insR; split <;> simp
theorem insU_insR {us : List (List Nat)} {n : Nat} : insU us (n : Int) = us.set (n - 1) (insR n (us.getD (n - 1) [])) := by
  by_cases h : n = 0
  · subst h; exact insU_zero (n := ((0 : Nat) : Int)) rfl
  · rw [insU_more (k := n) (by omega) rfl, insR, if_neg h]
theorem rows_at {us : List (List Nat)} {j i : Nat} {w : List Nat} (hi : i < us.length) : (us.set j w).getD i [] = if i = j then w else us.getD i [] := by
  rw [List.getD_eq_getElem?_getD, List.getElem?_set]
  by_cases e : j = i
  · subst e; rw [if_pos rfl, if_pos hi, if_pos rfl]; rfl
  · rw [if_neg e, if_neg (fun x => e x.symm), ← List.getD_eq_getElem?_getD]
theorem rows_set {ti : TypeId} {TF : Nat → Value} {us : List (List Nat)} {o0 o1 o2 oz : Option Blk} {j : Nat} {w : Value} {q : List Nat} (h : RowsIs ti TF us o0 o1 o2) (hj : j < 3) (ho : OwnS ti 1 w q.length (iis q) oz.toList) : RowsIs ti (updv TF j w) (us.set j q) (if j = 0 then oz else o0) (if j = 1 then oz else o1) (if j = 2 then oz else o2) := fun i hi => by
  rw [List.length_set] at hi
  rw [rows_at hi]
  by_cases e : i = j
  · subst e
    rw [if_pos rfl, updv, if_pos rfl]
    have : ox (if i = 0 then oz else o0) (if i = 1 then oz else o1) (if i = 2 then oz else o2) i = oz := by
      unfold ox
      match i, hj with
      | 0, _ => rfl
      | 1, _ => rfl
      | 2, _ => rfl
    rw [this]; exact ho
  · rw [if_neg e, updv, if_neg e]
    have e2 : ox (if j = 0 then oz else o0) (if j = 1 then oz else o1) (if j = 2 then oz else o2) i = ox o0 o1 o2 i := by
      unfold ox
      by_cases i0 : i = 0
      · rw [if_pos i0, if_pos i0, if_neg (by omega)]
      · rw [if_neg i0, if_neg i0]
        by_cases i1 : i = 1
        · rw [if_pos i1, if_pos i1, if_neg (by omega)]
        · rw [if_neg i1, if_neg i1]
          by_cases i2 : i = 2
          · rw [if_pos i2, if_pos i2, if_neg (by omega)]
          · rw [if_neg i2, if_neg i2]
    rw [e2]; exact h i hi
theorem rowN_le {us : List (List Nat)} {k : Nat} (h : ∀ q ∈ us, q.length ≤ k) (j : Nat) : (us.getD j []).length ≤ k := by
  by_cases hj : j < us.length
  · rw [List.getD_eq_getElem?_getD, List.getElem?_eq_getElem hj]; exact h _ (List.getElem_mem hj)
  · rw [List.getD_eq_getElem?_getD, List.getElem?_eq_none (by omega)]; exact Nat.zero_le _
def PatIsI (base : List Nat) (late : Bool) (ps : List Int) (q0 q1 : List Nat) (us : List (List Nat)) (w : Value) (B : Mem) : Prop := ∃ vp, Shows B 1 vp ps.length (ps.map iv) ∧ PatIs base late vp q0 q1 us w B
theorem pat_roomI (base : List Nat) (late : Bool) (ps : List Int) (q0 q1 : List Nat) (us : List (List Nat)) (m : Mem) : ∃ v nw, (∃ w', v = Value.tuple #[w', ii 0] ∧ PatIsI base late ps q0 q1 us w' nw) ∧ FreshM m nw := by
  obtain ⟨vp, n0, h0, f0⟩ := fresh_vals m (ps.map iv)
  rw [List.length_map] at h0
  obtain ⟨w, n1, h1, f1⟩ := pat_fresh base late vp q0 q1 us (m ++ n0)
  exact ⟨_, n0 ++ n1, ⟨w, rfl, vp, h0.mono fun x hx => List.mem_append_left _ hx, pat_mono h1 fun x hx => List.mem_append_right _ hx⟩, fresh_cat f0 f1⟩
theorem pat_two {base : List Nat} {late : Bool} {ds q0 q1 : List Nat} {us : List (List Nat)} {w : Value} {B : Mem} (h : PatIsI base late (ci ds) q0 q1 us w B) : PatIs2 base late ds q0 q1 us w B := by
  obtain ⟨vp, h1, h2⟩ := h
  exact ⟨vp, by rw [List.length_map] at h1; exact h1, h2⟩
theorem patI_mono {base : List Nat} {late : Bool} {ps : List Int} {q0 q1 : List Nat} {us : List (List Nat)} {w : Value} {B B' : Mem} (h : PatIsI base late ps q0 q1 us w B) (hs : ∀ x ∈ B, x ∈ B') : PatIsI base late ps q0 q1 us w B' := by
  obtain ⟨vp, h1, h2⟩ := h
  exact ⟨vp, h1.mono hs, pat_mono h2 hs⟩
theorem rows_shows {ti : TypeId} {TF : Nat → Value} {us : List (List Nat)} {o0 o1 o2 : Option Blk} {B : Mem} (h : RowsIs ti TF us o0 o1 o2) (hB : ∀ i, ∀ x ∈ (ox o0 o1 o2 i).toList, x ∈ B) : ShowsLI B ((List.range us.length).map TF) (us.map ci) := by
  refine ⟨by simp, fun i hi => ?_⟩
  have hi : i < us.length := by simpa using hi
  have h1 := (h i hi).shows.mono (hB i)
  have e1 : ((List.range us.length).map TF).getD i undef = TF i := by simp [List.getD_eq_getElem?_getD, hi]
  have e2 : (us.map ci).getD i [] = ci (us.getD i []) := by simp [List.getD_eq_getElem?_getD, hi]
  rw [e1, e2, ci_ii, show (ci (us.getD i [])).length = (us.getD i []).length by simp [ci]]
  exact h1
theorem tblk_shows {rT n : Nat} {TF : Nat → Value} {tr : TypeId} {B : Mem} (h : (⟨rT, arrv n TF, tr⟩ : Blk) ∈ B) : Shows B 1 (slv rT n) n ((List.range n).map TF) := by
  have := (shows_new (r := rT) (z := 1) (len := n) (arrv n TF) tr (by rw [arrv_size, Nat.mul_one])).mono (B' := B) fun x hx => by simp at hx; subst hx; exact h
  exact this
theorem with_pat {ti tr : TypeId} {l : List Nat} {late : Bool} {ps : List Int} {q0 q1 : List Nat} {us : List (List Nat)} {vp va vb : Value} {op oa ob o0 o1 o2 : Option Blk} {TF : Nat → Value} {rT n : Nat} {e : TypeId} {B : Mem} (hp : OwnS e 1 vp ps.length (ps.map iv) op.toList) (hA : OwnS ti 1 va q0.length (iis q0) oa.toList) (hB : OwnS ti 1 vb q1.length (iis q1) ob.toList) (hR : RowsIs ti TF us o0 o1 o2) (hn : us.length = n)
    (hs : ∀ o ∈ [op, oa, ob, o0, o1, o2], ∀ x ∈ o.toList, x ∈ B) (hT : (⟨rT, arrv n TF, tr⟩ : Blk) ∈ B) : PatIsI l late ps q0 q1 us (.agg (patC l late vp va vb (slv rT n))) B := by
  subst hn
  refine ⟨vp, hp.shows.mono (hs op (by simp)), va, vb, slv rT us.length, (List.range us.length).map TF, rfl, by rw [ci_ii]; exact hA.shows.mono (hs oa (by simp)), by rw [ci_ii]; exact hB.shows.mono (hs ob (by simp)), tblk_shows hT, by simp, rows_shows hR fun i x hx => ?_⟩
  unfold ox at hx
  split at hx
  · exact hs o0 (by simp) x hx
  split at hx
  · exact hs o1 (by simp) x hx
  split at hx
  · exact hs o2 (by simp) x hx
  · simp at hx
theorem sameQ (b : List Nat) (p : List Int) (la lb : Bool) (q0a q0b q1a q1b : List Int) (ta tb : List (List Int)) : ((la == lb) && decide ([q0a, q1a] = [q0b, q1b]) && decide (ta = tb)) = sameP b b la lb p p q0a q0b q1a q1b ta tb := by
  unfold sameP
  rw [Bool.eq_iff_iff]
  simp only [Bool.and_eq_true, beq_iff_eq, decide_eq_true_eq, List.cons.injEq, and_true, true_and]
  constructor
  · rintro ⟨⟨h1, h2, h3⟩, h4⟩; exact ⟨h1, h2, h3, h4⟩
  · rintro ⟨h1, h2, h3, h4⟩; exact ⟨⟨h1, h2, h3⟩, h4⟩
end Go.Proofs.YtejejmhbhegneaaDoor
namespace Go.Proofs.YtejejmhbhegneaaDoor
open Go.ChangeShapes Go.WideShapes Go.ChangeAt Go.RowKit
section
variable {P : Program} {W : World}
def RdT (P : Program) (W : World) (t : TypeId) (cs : List Value) (d : DataW Unit) : Prop := ∃ fuel p, DataW.trod (fun _ => ()) P W 0 (fun _ => true) false fuel t cs = some (d, p)
def VarT (P : Program) (W : World) (n : String) (d : DataW Unit) : Prop := ∃ g t cs, P.globalNamed n = some g ∧ (P.globals[g]?).map (·.type) = some t ∧ W.var? P n = some cs ∧ RdT P W t cs.toList d
theorem laid_vars : ∀ {l : List (String × DataW Unit)} {ps : List MemPlace}, DataW.LaidVars P W l ps → ∀ x ∈ l, VarT P W x.1 x.2
  | [], _, _, x, hx => absurd hx List.not_mem_nil
  | (n, d) :: r, ps, h, x, hx => by
    obtain ⟨g, t, cs, fuel, p, q, h1, h2, h3, h4, h5, _⟩ := h
    rcases List.mem_cons.1 hx with rfl | hx
    · exact ⟨g, t, cs, h1, h2, h3, fuel, p, h4⟩
    · exact laid_vars h5 x hx
theorem laid_metH {l : List (String × DataW Unit)} (hp : (l.all fun x => x.2.handleName?.isNone) = true) (h : laidMetH P l W) : ∀ x ∈ l, VarT P W x.1 x.2 := by
  rw [MakeChecks.laidMetH_plain _ _ _ hp] at h
  obtain ⟨ps, h1, _⟩ := h
  exact laid_vars h1
theorem cut_one {cs : List Value} {r : Nat} {v : Value} (h : (cs.drop r).take 1 = [v]) : cs[r]? = some v := by
  have h0 : ((cs.drop r).take 1)[0]? = some v := by rw [h]; rfl
  simpa using h0
theorem rd_ints {k : IntKind} {N : Nat} {e T : TypeId} {zs : List Int} {cs : List Value} (hT : P.underlying T = some (.array N e)) (he : P.underlying e = some (.int k)) (hc : P.cellsOf e = 1) (h : RdT P W T cs (.agg (zs.map fun n => .lit (.int k n)))) : ∀ r, r < N → cs[r]? = some (.int k (zs.getD r 0)) := by
  obtain ⟨fuel, p, hd⟩ := h
  obtain ⟨xs, m, _, ex, _, hl, hel⟩ := DataW.trod_array hT hd
  have e3 : (xs.map (·.1)) = zs.map fun n => .lit (.int k n) := (DataW.agg.inj (Prod.mk.inj ex).1).symm
  have hlen : zs.length = N := by
    have := congrArg List.length e3
    simpa [hl] using this.symm
  intro r hr
  have hE := hel r hr
  rw [hc, Nat.mul_one, List.getElem?_eq_getElem (by omega)] at hE
  obtain ⟨z, e1, e2, _⟩ := DataW.trod_int he hE
  have e4 : (xs.map (·.1))[r]? = (zs.map fun n => (DataW.lit (.int k n) : DataW Unit))[r]? := by rw [e3]
  rw [List.getElem?_map, List.getElem?_map, List.getElem?_eq_getElem (by omega : r < xs.length), List.getElem?_eq_getElem (by omega : r < zs.length), e2] at e4
  have hz : z = zs.getD r 0 := by
    simp only [Option.map_some, Option.some.injEq, DataW.lit.injEq, Lit.int.injEq, true_and] at e4
    rw [e4, List.getD, List.getElem?_eq_getElem (by omega : r < zs.length)]; rfl
  rw [← hz]
  exact cut_one e1
theorem rin_tab {n : String} {g N : Nat} {T : TypeId} {k : IntKind} {f : Nat → Nat} {d : DataW Unit} (hg : P.globalNamed n = some g) (ht : (P.globals[g]?).map (·.type) = some T) (hN : 0 < N) (h : VarT P W n d) (hr : ∀ cs, RdT P W T cs d → ∀ r, r < N → cs[r]? = some (.int k (f r : Int))) : RIn W ⟨g, arr k N f, T⟩ := by
  obtain ⟨g', t, cs, h1, h2, h3, h4⟩ := h
  obtain rfl := Option.some.inj (hg.symm.trans h1)
  obtain rfl := Option.some.inj (ht.symm.trans h2)
  have key : ∀ r, r < N → W.cell? ⟨g, r, none⟩ = some (.int k (f r : Int)) := fun r hrr => by
    rw [World.var?_cell hg h3 r]
    have := hr cs.toList h4 r hrr
    simpa using this
  refine ⟨?_, fun o ho => ?_⟩
  · have h0 := key 0 hN
    unfold World.cell? at h0
    cases hh : W.heap[g]? with
    | none => rw [hh] at h0; cases h0
    | some b => exact (Array.getElem?_eq_some_iff.1 hh).1
  · have ho : o < N := by simpa [arr_size] using ho
    show W.cell? ⟨g, o, none⟩ = (arr k N f)[o]?
    rw [arr_get ho]; exact key o ho
theorem memR_nil : MemR [] W := fun _ h => absurd h List.not_mem_nil
theorem memR_cons {x : Blk} {m : Mem} (h : RIn W x) (hm : MemR m W) : MemR (x :: m) W := fun y hy => by
  rcases List.mem_cons.1 hy with rfl | hy
  · exact h
  · exact hm y hy
theorem memR_app {m m' : Mem} (h : MemR m W) (hm : MemR m' W) : MemR (m ++ m') W := fun y hy => by
  rcases List.mem_append.1 hy with hy | hy
  · exact h y hy
  · exact hm y hy
end
theorem Fn.wide {P : Program} {G G' : Mem} {f : FuncId} {args : Array Value} {v : Value} (h : Fn P G f args v) (hs : ∀ x ∈ G, x ∈ G') : Fn P G' f args v := fun w hG => h w fun x hx => hG x (hs x hx)
end Go.Proofs.YtejejmhbhegneaaDoor
namespace Go.Proofs.YtejejmhbhegneaaDoor
open Go.ChangeShapes Go.WideShapes Go.ChangeAt Go.RowKit
set_option maxRecDepth 100000 in
theorem laid_strings_asciiSpace_rin {W : World} (h : VarT Tryd.prog W "strings.asciiSpace" Rows.laid_strings_asciiSpace) : RIn W (⟨1, arr .u8 256 asp, 77⟩ : Blk) :=
  rin_tab (by kernel_rfl) (by kernel_rfl) (by decide) h fun cs hc r hr => by
    have h1 := rd_ints (zs := [0, 0, 0, 0, 0, 0, 0, 0, 0, 1, 1, 1, 1, 1, 0, 0, 0, 0, 0, 0, 0, 0, 0, 0, 0, 0, 0, 0, 0, 0, 0, 0, 1, 0, 0, 0, 0, 0, 0, 0, 0, 0, 0, 0, 0, 0, 0, 0, 0, 0, 0, 0, 0, 0, 0, 0, 0, 0, 0, 0, 0, 0, 0, 0, 0, 0, 0, 0, 0, 0, 0, 0, 0, 0, 0, 0, 0, 0, 0, 0, 0, 0, 0, 0, 0, 0, 0, 0, 0, 0, 0, 0, 0, 0, 0, 0, 0, 0, 0, 0, 0, 0, 0, 0, 0, 0, 0, 0, 0, 0, 0, 0, 0, 0, 0, 0, 0, 0, 0, 0, 0, 0, 0, 0, 0, 0, 0, 0, 0, 0, 0, 0, 0, 0, 0, 0, 0, 0, 0, 0, 0, 0, 0, 0, 0, 0, 0, 0, 0, 0, 0, 0, 0, 0, 0, 0, 0, 0, 0, 0, 0, 0, 0, 0, 0, 0, 0, 0, 0, 0, 0, 0, 0, 0, 0, 0, 0, 0, 0, 0, 0, 0, 0, 0, 0, 0, 0, 0, 0, 0, 0, 0, 0, 0, 0, 0, 0, 0, 0, 0, 0, 0, 0, 0, 0, 0, 0, 0, 0, 0, 0, 0, 0, 0, 0, 0, 0, 0, 0, 0, 0, 0, 0, 0, 0, 0, 0, 0, 0, 0, 0, 0, 0, 0, 0, 0, 0, 0, 0, 0, 0, 0, 0, 0, 0, 0, 0, 0, 0, 0, 0, 0, 0, 0, 0, 0]) (show Tryd.prog.underlying 77 = some (.array 256 5) by kernel_rfl) (show Tryd.prog.underlying 5 = some (.int .u8) by kernel_rfl) (show Tryd.prog.cellsOf 5 = 1 by kernel_rfl) hc r hr
    rw [h1]
    have h2 : ((List.range 256).all fun r => ([0, 0, 0, 0, 0, 0, 0, 0, 0, 1, 1, 1, 1, 1, 0, 0, 0, 0, 0, 0, 0, 0, 0, 0, 0, 0, 0, 0, 0, 0, 0, 0, 1, 0, 0, 0, 0, 0, 0, 0, 0, 0, 0, 0, 0, 0, 0, 0, 0, 0, 0, 0, 0, 0, 0, 0, 0, 0, 0, 0, 0, 0, 0, 0, 0, 0, 0, 0, 0, 0, 0, 0, 0, 0, 0, 0, 0, 0, 0, 0, 0, 0, 0, 0, 0, 0, 0, 0, 0, 0, 0, 0, 0, 0, 0, 0, 0, 0, 0, 0, 0, 0, 0, 0, 0, 0, 0, 0, 0, 0, 0, 0, 0, 0, 0, 0, 0, 0, 0, 0, 0, 0, 0, 0, 0, 0, 0, 0, 0, 0, 0, 0, 0, 0, 0, 0, 0, 0, 0, 0, 0, 0, 0, 0, 0, 0, 0, 0, 0, 0, 0, 0, 0, 0, 0, 0, 0, 0, 0, 0, 0, 0, 0, 0, 0, 0, 0, 0, 0, 0, 0, 0, 0, 0, 0, 0, 0, 0, 0, 0, 0, 0, 0, 0, 0, 0, 0, 0, 0, 0, 0, 0, 0, 0, 0, 0, 0, 0, 0, 0, 0, 0, 0, 0, 0, 0, 0, 0, 0, 0, 0, 0, 0, 0, 0, 0, 0, 0, 0, 0, 0, 0, 0, 0, 0, 0, 0, 0, 0, 0, 0, 0, 0, 0, 0, 0, 0, 0, 0, 0, 0, 0, 0, 0, 0, 0, 0, 0, 0, 0, 0, 0, 0, 0, 0, 0] : List Int).getD r 0 == (asp r : Int)) = true := by decide +kernel
    have h3 := (List.all_eq_true.1 h2) r (List.mem_range.2 hr)
    rw [eq_of_beq h3]
end Go.Proofs.YtejejmhbhegneaaDoor
namespace Go.Proofs.YtejejmhbhegneaaDoor
open Go Go.RowKit
def twK (us : List (List Nat)) (i j : Nat) : List (List Nat) := us.set i (us.getD i [] ++ [(us.getD i []).getD j 0])
def leK (us : List (List Nat)) (i j : Nat) : List (List Nat) := us.set i ((us.getD i []).take j ++ (us.getD i []).drop (j + 1))
def fewK (k i j : Nat) : Bool :=
  let n := nmK k
  let ps := ci (psK k 0)
  let us := wt n ps
  let q := us.getD i []
  let flt := fun ts : List (List Nat) => pfault (decide (n = nXF)) (ci (wq n ps 0)) (ci (wq n ps 1)) (ts.map ci)
  decide (us.length ≤ 10) && decide (0 < us.length) && (us.all fun q => decide (0 < q.length) && decide (q.length ≤ 10)) && (decide (us.length ≤ i) || decide (q.length ≤ j) || (decide (flt (twK us i j) = 3) && (decide (q.getD j 0 ≠ 1) || decide (flt (leK us i j) = 3))))
theorem few_all : ∀ k, k < 6 → ∀ i, i < 10 → ∀ j, j < 10 → fewK k i j = true := by decide +kernel
theorem few_open {k : Nat} (hk : k < 6) : (wt (nmK k) (ci (psK k 0))).length ≤ 10 ∧ 0 < (wt (nmK k) (ci (psK k 0))).length ∧ (∀ i, i < (wt (nmK k) (ci (psK k 0))).length → 0 < ((wt (nmK k) (ci (psK k 0))).getD i []).length ∧ ((wt (nmK k) (ci (psK k 0))).getD i []).length ≤ 10) ∧
    ∀ i j, i < (wt (nmK k) (ci (psK k 0))).length → j < ((wt (nmK k) (ci (psK k 0))).getD i []).length → pfault (decide (nmK k = nXF)) (ci (wq (nmK k) (ci (psK k 0)) 0)) (ci (wq (nmK k) (ci (psK k 0)) 1)) ((twK (wt (nmK k) (ci (psK k 0))) i j).map ci) = 3 ∧ (((wt (nmK k) (ci (psK k 0))).getD i []).getD j 0 = 1 → pfault (decide (nmK k = nXF)) (ci (wq (nmK k) (ci (psK k 0)) 0)) (ci (wq (nmK k) (ci (psK k 0)) 1)) ((leK (wt (nmK k) (ci (psK k 0))) i j).map ci) = 3) := by
  have h0 := few_all k hk 0 (by decide) 0 (by decide)
  simp only [fewK, Bool.and_eq_true, decide_eq_true_eq, List.all_eq_true] at h0
  obtain ⟨⟨⟨h1, h2⟩, h3⟩, _⟩ := h0
  have h4 : ∀ i, i < (wt (nmK k) (ci (psK k 0))).length → 0 < ((wt (nmK k) (ci (psK k 0))).getD i []).length ∧ ((wt (nmK k) (ci (psK k 0))).getD i []).length ≤ 10 := fun i hi => by
    have := h3 _ (List.getElem_mem hi)
    rw [List.getD_eq_getElem?_getD, List.getElem?_eq_getElem hi]
    exact this
  refine ⟨h1, h2, h4, fun i j hi hj => ?_⟩
  have h5 := h4 i hi
  have h := few_all k hk i (by omega) j (by omega)
  simp only [fewK, Bool.and_eq_true, Bool.or_eq_true, decide_eq_true_eq] at h
  obtain ⟨_, h6⟩ := h
  rcases h6 with (h6 | h6) | ⟨h6, h7⟩
  · omega
  · omega
  · exact ⟨h6, fun e => h7.resolve_left fun ne => ne e⟩
theorem li_set {B : Mem} {vs : List Value} {ls : List (List Int)} (h : ShowsLI B vs ls) {i : Nat} (hi : i < ls.length) {v : Value} {q : List Int} (hv : Shows B 1 v q.length (q.map iv)) : ShowsLI B (vs.set i v) (ls.set i q) := by
  obtain ⟨h1, h2⟩ := h
  refine ⟨by rw [List.length_set, List.length_set, h1], fun j hj => ?_⟩
  rw [List.length_set] at hj
  by_cases e : i = j
  · subst e
    rw [List.getD_eq_getElem?_getD, List.getD_eq_getElem?_getD, List.getElem?_set_self (by omega), List.getElem?_set_self hi]
    exact hv
  · rw [List.getD_eq_getElem?_getD, List.getD_eq_getElem?_getD, List.getElem?_set_ne e, List.getElem?_set_ne e, ← List.getD_eq_getElem?_getD, ← List.getD_eq_getElem?_getD]
    exact h2 j hj
theorem tw_li {B : Mem} {tv : List Value} {us : List (List Nat)} {i : Nat} {v : Value} {q : List Nat} (h : ShowsLI B tv (us.map ci)) (hi : i < us.length) (hv : Shows B 1 v q.length ((ci q).map iv)) : ShowsLI B (tv.set i v) ((us.set i q).map ci) := by
  rw [List.map_set]
  exact li_set h (by simpa using hi) (by rw [show (ci q).length = q.length by simp [ci]]; exact hv)
theorem cut_ints {B : Mem} {v : Value} {q : List Nat} {i j : Nat} (h : Shows B 1 v q.length ((ci q).map iv)) (h1 : i ≤ j) (h2 : j ≤ q.length) : Shows B 1 (slPart 1 v i j) ((q.drop i).take (j - i)).length ((ci ((q.drop i).take (j - i))).map iv) := by
  have h3 := h.part (i := i) (j := j) h1 h2
  have e1 : ((q.drop i).take (j - i)).length = j - i := by rw [List.length_take, List.length_drop]; omega
  have e2 : (ci ((q.drop i).take (j - i))).map iv = (((ci q).map iv).drop (i * 1)).take ((j - i) * 1) := by
    rw [Nat.mul_one, Nat.mul_one]
    unfold ci
    simp only [List.map_map, List.map_take, List.map_drop]
  rw [e1, e2]
  exact h3
theorem few_own {e : TypeId} {v w : Value} {n i : Nat} {xs : List Value} {m : Mem} (h : OwnS e 1 v (0 + n) (([] ++ xs).set i w) m) (hn : xs.length = n) : Shows m 1 v (xs.set i w).length (xs.set i w) := by
  have := h.shows
  rw [Nat.zero_add, List.nil_append] at this
  rw [List.length_set, hn]
  exact this
theorem few_ints {e : TypeId} {v : Value} {n : Nat} {xs : List Value} {l : List Nat} {m : Mem} (h : OwnS e 1 v n xs m) (hx : xs = (ci l).map iv) (hn : n = l.length) : Shows m 1 v l.length ((ci l).map iv) := by
  subst hx hn
  exact h.shows
theorem few_sizes {us : List (List Nat)} {ps q0 q1 : List Nat} (h : us.length ≤ 1000 ∧ ps.length ≤ 1000 ∧ q0.length ≤ 1000 ∧ q1.length ≤ 1000 ∧ ∀ q ∈ us, q.length ≤ 1000) (i : Nat) {q : List Nat} (hq : q.length ≤ 1000) : (us.set i q).length ≤ 1000 ∧ ps.length ≤ 1000 ∧ q0.length ≤ 1000 ∧ q1.length ≤ 1000 ∧ ∀ q' ∈ us.set i q, q'.length ≤ 1000 := by
  obtain ⟨h1, h2, h3, h4, h5⟩ := h
  refine ⟨by rw [List.length_set]; exact h1, h2, h3, h4, fun q' hq' => ?_⟩
  rcases List.mem_or_eq_of_mem_set hq' with h6 | h6
  · exact h5 q' h6
  · rw [h6]; exact hq
theorem few_zero (B : Mem) : Shows B 1 nilS ([] : List Value).length [] ∧ ShowsLI B [nilS, nilS, nilS] [[], [], []] := by
  refine ⟨shows_nil B 1, rfl, fun i hi => ?_⟩
  have h3 : i = 0 ∨ i = 1 ∨ i = 2 := by simp at hi; omega
  rcases h3 with rfl | rfl | rfl <;> exact shows_nil B 1
theorem few_tw {q : List Nat} {x : Nat} : [] ++ (ci q).map iv ++ [ii x] = (ci (q ++ [x])).map iv := by simp
theorem few_le {q : List Nat} {j : Nat} : [] ++ (ci ((q.drop 0).take (j - 0))).map iv ++ (ci ((q.drop (j + 1)).take (q.length - (j + 1)))).map iv = (ci (q.take j ++ q.drop (j + 1))).map iv := by
  rw [List.drop_zero, Nat.sub_zero, List.take_of_length_le (show (q.drop (j + 1)).length ≤ q.length - (j + 1) by rw [List.length_drop]; omega)]
  simp
end Go.Proofs.YtejejmhbhegneaaDoor
namespace Go.Proofs.YtejejmhbhegneaaDoor
open Go Go.ChangeShapes Go.WideShapes Go.ChangeAt Go.RowKit
section
variable {H : Type} {enc : TypeId × Value → H} {P : Program} {t e : TypeId}
theorem bulk_in : ∀ {l : List (DataW H)} {j : Nat} {d : DataW H}, l[j]? = some d → Rows.uptoBulk d ≤ Rows.uptoBulkAll l
  | x :: l, 0, d, h => by
    have : x = d := by simpa using h
    subst this
    simp only [Rows.uptoBulkAll]; omega
  | x :: l, j + 1, d, h => by
    have := bulk_in (l := l) (j := j) (d := d) (by simpa using h)
    simp only [Rows.uptoBulkAll]; omega
theorem bulk_of {ds : List (DataW H)} (h : Rows.uptoSmall H ds = true) {j : Nat} {d : DataW H} (hd : ds[j]? = some d) : Rows.uptoBulk d ≤ 1048576 := Nat.le_trans (bulk_in hd) (of_decide_eq_true h)
end
end Go.Proofs.YtejejmhbhegneaaDoor
namespace Go.Proofs.YtejejmhbhegneaaDoor
open Go Go.ChangeShapes Go.WideShapes Go.ChangeAt Go.RowKit
section
variable {P : Program} {W : World}
theorem shape_int {g : Nat} {t : TypeId} {zero : Array Value} (h : W.ShapedOpen P) (hg : g < P.globals.size)
    (h0 : ((begin P (fun _ _ => 0) default).world.heap[g]?).bind Obj.row? = some (zero, t)) (hz : zero.size = 1)
    (hb : P.buildable t = true) (hc : P.cellTypes P.depth t = some [t]) (hu : P.underlying t = some (.int .i64)) : ∃ m : Int, RIn W ⟨g, #[.int .i64 m], t⟩ := by
  obtain ⟨cs, hh, hs, hr⟩ := h.1 g zero t hg h0
  obtain ⟨ts, hts, _, hall⟩ := hr hb
  rw [hc] at hts
  cases hts
  have h1 : 0 < cs.size := by omega
  obtain ⟨u, hu', hok⟩ := hall 0 cs[0] (by simp [h1])
  have : u = t := by simpa using hu'.symm
  subst this
  have hcell : W.cell? ⟨g, 0, none⟩ = some cs[0] := by simp [World.cell?, hh, h1]
  unfold Cell.ok at hok
  rw [hu] at hok
  obtain ⟨m, hm⟩ : ∃ m : Int, cs[0] = .int .i64 m := by
    cases hv : cs[0] <;> rw [hv] at hok <;> simp at hok
    rename_i k z
    exact ⟨z, by rw [hok.1]⟩
  refine ⟨m, (Array.getElem?_eq_some_iff.1 hh).1, fun o ho => ?_⟩
  have : o = 0 := by simpa using ho
  subst this
  rw [hcell, hm]; rfl
theorem rd_texts {N : Nat} {e T : TypeId} {ws : List (List UInt8)} {cs : List Value} (hT : P.underlying T = some (.array N e)) (he : P.underlying e = some .string) (hc : P.cellsOf e = 1) (h : RdT P W T cs (.agg (ws.map fun s => .lit (.string s)))) : ∀ r, r < N → cs[r]? = some (.string ⟨(ws.getD r []).toArray⟩) := by
  obtain ⟨fuel, p, hd⟩ := h
  obtain ⟨xs, m, _, ex, _, hl, hel⟩ := DataW.trod_array hT hd
  have e3 : (xs.map (·.1)) = ws.map fun s => .lit (.string s) := (DataW.agg.inj (Prod.mk.inj ex).1).symm
  have hlen : ws.length = N := by
    have := congrArg List.length e3
    simpa [hl] using this.symm
  intro r hr
  have hE := hel r hr
  rw [hc, Nat.mul_one, List.getElem?_eq_getElem (by omega)] at hE
  obtain ⟨z, e1, e2, _⟩ := DataW.trod_string he hE
  have e4 : (xs.map (·.1))[r]? = (ws.map fun s => (DataW.lit (.string s) : DataW Unit))[r]? := by rw [e3]
  rw [List.getElem?_map, List.getElem?_map, List.getElem?_eq_getElem (by omega : r < xs.length), List.getElem?_eq_getElem (by omega : r < ws.length), e2] at e4
  have hz : z.data.toList = ws.getD r [] := by
    simp only [Option.map_some, Option.some.injEq, DataW.lit.injEq, Lit.string.injEq] at e4
    rw [e4, List.getD, List.getElem?_eq_getElem (by omega : r < ws.length)]; rfl
  rw [← hz]
  exact cut_one e1
theorem rin_row {n : String} {g : Nat} {T : TypeId} {c : Array Value} {d : DataW Unit} (hg : P.globalNamed n = some g) (ht : (P.globals[g]?).map (·.type) = some T) (hN : 0 < c.size) (h : VarT P W n d) (hr : ∀ cs, RdT P W T cs d → ∀ r, r < c.size → cs[r]? = c[r]?) : RIn W ⟨g, c, T⟩ := by
  obtain ⟨g', t, cs, h1, h2, h3, h4⟩ := h
  obtain rfl := Option.some.inj (hg.symm.trans h1)
  obtain rfl := Option.some.inj (ht.symm.trans h2)
  have key : ∀ r, r < c.size → W.cell? ⟨g, r, none⟩ = c[r]? := fun r hrr => by
    rw [World.var?_cell hg h3 r]
    have := hr cs.toList h4 r hrr
    simpa using this
  refine ⟨?_, fun o ho => key o ho⟩
  have h0 := key 0 hN
  rw [Array.getElem?_eq_getElem hN] at h0
  unfold World.cell? at h0
  cases hh : W.heap[g]? with
  | none => rw [hh] at h0; cases h0
  | some b => exact (Array.getElem?_eq_some_iff.1 hh).1
end
section
variable {H : Type} {enc : TypeId × Value → H} {P : Program} {t : TypeId}
theorem bulk_str {W : World} {base : Nat} {s : Nat → Bool} {held : Bool} {l : List Nat} {d : DataW H} {ps : List MemPlace} (ht : P.underlying t = some .string) (hd : DataW.Trod enc P W base s held t (sv l) d ps) (hw : Rows.uptoBulk d ≤ 1048576) : l.length ≤ 1048576 := by
  obtain ⟨fuel, hf⟩ := hd
  obtain ⟨b, h1, h2, _⟩ := DataW.trod_string ht hf
  have h1 : [sv l] = [Value.string b] := h1
  injection h1 with h1 _
  injection h1 with h1
  have h3 : d = .lit (.string b.data.toList) := (Prod.mk.inj h2).1
  rw [h3] at hw
  simp only [Rows.uptoBulk] at hw
  have h4 : b.size = l.length := by rw [← h1]; exact bstr_size l
  have h5 : b.data.toList.length = b.size := Array.length_toList
  omega
end
end Go.Proofs.YtejejmhbhegneaaDoor
namespace Go.Proofs.YtejejmhbhegneaaDoor
open Go.ChangeShapes Go.WideShapes Go.ChangeAt Go.RowKit
theorem laid_signet_signetkeep_bases_rin {W : World} (h : VarT Tryd.prog W "signet/signetkeep.bases" Rows.laid_signet_signetkeep_bases) : RIn W (⟨0, (nm6.map sv).toArray, 57⟩ : Blk) :=
  rin_row (by kernel_rfl) (by kernel_rfl) (by decide) h fun cs hc r hr => by
    have hr : r < 6 := hr
    rw [rd_texts (N := 6) (ws := [[78, 78], [78, 75], [88, 88], [73, 75], [88, 75], [75, 75]]) (show Tryd.prog.underlying 57 = some (.array 6 9) by kernel_rfl) (by kernel_rfl) (by kernel_rfl) hc r hr]
    have : r = 0 ∨ r = 1 ∨ r = 2 ∨ r = 3 ∨ r = 4 ∨ r = 5 := by omega
    rcases this with rfl | rfl | rfl | rfl | rfl | rfl <;> rfl
end Go.Proofs.YtejejmhbhegneaaDoor
namespace Go.Proofs.YtejejmhbhegneaaDoor
open Go Go.RowKit
def renJ : Go.Shelf.Ren := ⟨fun n => if n = 156 then 44 else if n = 165 then 63 else if n = 166 then 64 else if n = 169 then 65 else if n = 240 then 78 else if n = 241 then 79 else if n = 276 then 88 else 89, fun n => if n = 0 then 0 else if n = 3 then 3 else if n = 4 then 4 else if n = 5 then 5 else if n = 9 then 9 else if n = 20 then 20 else if n = 31 then 47 else if n = 37 then 56 else if n = 70 then 88 else if n = 72 then 90 else if n = 75 then 93 else if n = 76 then 94 else if n = 80 then 96 else if n = 127 then 111 else 129, fun n => n⟩
set_option maxHeartbeats 4000000 in
theorem lay_join : Lays.n156 Tryd.prog renJ := by
  constructor <;> first | kernel_rfl | (intro w; kernel_rfl)
theorem lay_byte : Builder.Extra Tryd.prog renJ := by
  refine ⟨⟨?_, ?_⟩, ?_, ?_, ?_, ?_, ?_, ?_, ?_, ?_⟩ <;> first | kernel_rfl | (intro w; kernel_rfl) | decide
theorem bstr_data (l : List Nat) : (bstr l).data.toList = l.map UInt8.ofNat := by simp [bstr]
theorem join_bytes (ws : List (List Nat)) : Lib.join ((ws.map bstr).map (·.data.toList)) (bstr [43]).data.toList = (joinL 43 ws).map UInt8.ofNat := by
  have h1 : (ws.map bstr).map (·.data.toList) = ws.map fun w => w.map UInt8.ofNat := by
    rw [List.map_map]; exact List.map_congr_left fun w _ => bstr_data w
  rw [h1, bstr_data, ← joinL_lib]; rfl
theorem join_fn {G : Mem} (v : Value) (ws : List (List Nat)) (hv : Shows G 1 v ws.length (ws.map sv)) (hn : ws.length ≤ 1000) (hl : (joinL 43 ws).length ≤ 1000000) : Fn Tryd.prog G 44 #[v, sv [43]] (sv (joinL 43 ws)) := fun w hG => by
  have hf : renJ.f 156 = 44 := rfl
  have hlen : (Lib.join ((ws.map bstr).map (·.data.toList)) (bstr [43]).data.toList).length ≤ 140737488355328 := by rw [join_bytes, List.length_map]; omega
  have hres : (Value.string ⟨(Lib.join ((ws.map bstr).map (·.data.toList)) (bstr [43]).data.toList).toArray⟩) = sv (joinL 43 ws) := by rw [join_bytes]; rfl
  rcases hv with ⟨h0, _, oa, c, rfl, _⟩ | ⟨b, o, c, cs, t, rfl, hnc, hm, _, ho, hc⟩
  · obtain rfl : ws = [] := List.length_eq_zero_iff.1 h0
    exact (Any.strings_Join_none lay_join lay_byte oa c (bstr [43]) w).mono fun e w' ⟨he, hw⟩ => ⟨he, hw ▸ Below.refl _ _⟩
  · have hr := hG _ hm
    have := Any.strings_Join lay_join lay_byte b o c (ws.map bstr) (bstr [43]) w (fun j x hj => by
      have h1 : (ws.map sv)[j]? = some (.string x) := by
        rw [List.getElem?_map] at hj ⊢
        cases hw : ws[j]? with
        | none => rw [hw] at hj; cases hj
        | some q => rw [hw] at hj; injection hj with hj; subst hj; rfl
      have h2 := hc j _ h1
      have h3 : o + j < cs.size := (Array.getElem?_eq_some_iff.1 h2).1
      exact (hr.2 (o + j) h3).trans h2) hr.1 (by rw [List.length_map]; omega) (by rw [List.length_map]; exact hnc) hlen
    rw [List.length_map, hres] at this
    exact this
end Go.Proofs.YtejejmhbhegneaaDoor
/-
  Facts on this program's types, in tables.
-/
namespace Go.Proofs.YtejejmhbhegneaaDoor
open Go Go.RowKit
def lkT {α : Type} : List (Nat × α) → Nat → Option α
  | [], _ => none
  | (k, a) :: l, t => bif Nat.beq k t then some a else lkT l t
theorem lkT_map {α : Type} {f : Nat → Option α} : ∀ {L : List (Nat × α)} {t : Nat} {d : α}, L.map (fun p => f p.1) = L.map (fun p => some p.2) → lkT L t = some d → f t = some d
  | [], _, _, _, h => by cases h
  | (k, a) :: L, t, d, h, hk => by
    rw [List.map_cons, List.map_cons, List.cons.injEq] at h
    unfold lkT at hk
    cases hb : Nat.beq k t with
    | true => rw [hb] at hk; rw [← Nat.eq_of_beq_eq_true hb, h.1]; exact hk
    | false => rw [hb] at hk; exact lkT_map h.2 hk
theorem mixed : Tryd.prog.follows .mixedOrders = true := by kernel_rfl
def tbu : List (Nat × TypeDesc) := [(3, (.int .i64)), (4, (.bool)), (5, (.int .u8)), (9, (.string)), (22, (.slice 3)), (23, (.array 2 22)), (24, (.slice 22)), (26, (.struct #[.mk "Base" 9 0 false "" "" 0, .mk "Late" 4 1 false "" "" 16, .mk "Psks" 22 2 false "" "" 24, .mk "Pre" 23 3 false "" "" 48, .mk "Turns" 24 5 false "" "" 96])), (47, (.slice 9)), (56, (.slice 5)), (57, (.array 6 9)), (69, (.array 3 4)), (70, (.array 2 69)), (71, (.array 8 4)), (73, (.struct #[.mk "keys" 70 0 false "" "signet/pattern" 0, .mk "been" 71 6 false "" "signet/pattern" 6])), (77, (.array 256 5)), (105, (.int .u32)), (132, (.array 2 3))]
theorem tbu_ok : tbu.map (fun p => (fun t => Tryd.prog.underlying t) p.1) = tbu.map (fun p => some p.2) := by kernel_rfl
set_option maxRecDepth 100000 in
theorem Tu {T : TypeId} {d : TypeDesc} (h : lkT tbu T = some d) : Tryd.prog.underlying T = some d := lkT_map (L := tbu) (f := fun t => Tryd.prog.underlying t) tbu_ok h
theorem Uu (T : TypeId) {d : TypeDesc} (h : lkT tbu T = some d := by rfl) : Tryd.prog.underlying T = some d := Tu h
def tbz : List (Nat × Nat) := [(3, 1), (4, 1), (5, 1), (9, 1), (22, 1), (23, 2), (24, 1), (26, 6), (69, 3), (70, 6), (71, 8), (132, 2)]
theorem tbz_ok : tbz.map (fun p => (fun t => (Tryd.prog.info? t).map (·.size)) p.1) = tbz.map (fun p => some p.2) := by kernel_rfl
set_option maxRecDepth 100000 in
theorem Tz {T : TypeId} {d : Nat} (h : lkT tbz T = some d) : (Tryd.prog.info? T).map (·.size) = some d := lkT_map (L := tbz) (f := fun t => (Tryd.prog.info? t).map (·.size)) tbz_ok h
theorem Uz (T : TypeId) {d : Nat} (h : lkT tbz T = some d := by rfl) : (Tryd.prog.info? T).map (·.size) = some d := Tz h
def tby : List (Nat × Nat) := [(3, 8), (9, 16), (22, 24)]
theorem tby_ok : tby.map (fun p => (fun t => (Tryd.prog.info? t).map (·.bytes)) p.1) = tby.map (fun p => some p.2) := by kernel_rfl
set_option maxRecDepth 100000 in
theorem Ty {T : TypeId} {d : Nat} (h : lkT tby T = some d) : (Tryd.prog.info? T).map (·.bytes) = some d := lkT_map (L := tby) (f := fun t => (Tryd.prog.info? t).map (·.bytes)) tby_ok h
theorem Uy (T : TypeId) {d : Nat} (h : lkT tby T = some d := by rfl) : (Tryd.prog.info? T).map (·.bytes) = some d := Ty h
def tbb : List (Nat × Value) := [(3, (.int .i64 0)), (5, (.int .u8 0)), (9, (.string ByteArray.empty)), (22, (.slice none 0 0)), (23, (.agg #[.slice none 0 0, .slice none 0 0])), (26, (.agg (cells 6 [pV (.string ByteArray.empty), pV (.bool false), pV (.slice none 0 0), pV (.slice none 0 0), pV (.slice none 0 0), pV (.slice none 0 0)]))), (73, (.agg (arrv 14 fun _ => .bool false))), (132, (.agg (arr .i64 2 fun _ => 0)))]
theorem tbb_ok : tbb.map (fun p => (fun t => (Tryd.prog.info? t).bind (·.zero)) p.1) = tbb.map (fun p => some p.2) := by kernel_rfl
set_option maxRecDepth 100000 in
theorem Tb {T : TypeId} {d : Value} (h : lkT tbb T = some d) : (Tryd.prog.info? T).bind (·.zero) = some d := lkT_map (L := tbb) (f := fun t => (Tryd.prog.info? t).bind (·.zero)) tbb_ok h
theorem Ub (T : TypeId) {d : Value} (h : lkT tbb T = some d := by rfl) : (Tryd.prog.info? T).bind (·.zero) = some d := Tb h
def tbn : List Nat := [8, 9, 10, 11, 12, 13, 14, 15, 16, 17, 18, 19, 20, 21, 22, 23, 24, 25, 26, 27, 28, 29, 30, 31, 32, 33, 34, 35, 36, 37, 38, 39, 40, 41, 42, 43, 44, 45, 46, 48, 49, 52, 53, 54, 55, 56, 58, 59, 60, 61, 62, 66, 67, 68, 73, 74, 76, 77, 80, 84, 90]
theorem tbn_ok : tbn.all (fun f => enters Tryd.prog f) = true := by kernel_rfl
theorem Un (f : FuncId) (h : tbn.contains f = true := by rfl) : enters Tryd.prog f = true := List.all_eq_true.1 tbn_ok f (List.contains_iff_mem.1 h)
end Go.Proofs.YtejejmhbhegneaaDoor
/-
  Rules with short names.
-/
namespace Go.Proofs.YtejejmhbhegneaaDoor
open Go Go.RowKit
variable {G : Mem} {R : Reg} {ops : Array Oper} {n : Nat} {K : Env → Mm → Prop} {Q : Exit → Env → Mm → Prop} {rest : List Oper} {E : Env} {M : Mm} {d : Nat} {ty : TypeId} {pos : String} {aft : Array Edge} {T : TypeId} {T' : TypeId} {x : Operand} {y : Operand}
theorem Qs {c : Code} {c' : Code} : (SatE Tryd.prog G c n (thenE (SatE Tryd.prog G c' n Q) Q) E M) → SatE Tryd.prog G (.seq c c') n Q E M := fun h => e_seq h
theorem Qp {id : Nat} : (OpsE Tryd.prog G noReg ops n (Q .normal) ops.toList E M) → SatE Tryd.prog G (.region id ops false) n Q E M := fun h => e_plain h
theorem Qn : (K E M) → OpsE Tryd.prog G R ops n K [] E M := fun h => e_nil h
theorem Qk : (Q .normal E M) → SatE Tryd.prog G .skip n Q E M := fun h => e_skip h
theorem Qb {id : Nat} {c : Code} : (SatE Tryd.prog G c n (inBlockE id Q) E M) → SatE Tryd.prog G (.block id c) n Q E M := fun h => e_block h
theorem Qe {id : Nat} : (Q (.exit id) E M) → SatE Tryd.prog G (.exit id) n Q E M := fun h => e_exit h
theorem Qr : (Q .ret E M) → SatE Tryd.prog G .ret n Q E M := fun h => e_ret h
theorem Qm {v : Value} (hx : rd E x = some v := by rfl) (hd : Nat.blt d n = true := by rfl) : (OpsE Tryd.prog G R ops n K rest ((d, v) :: E) M) → OpsE Tryd.prog G R ops n K (⟨some d, .move x, ty, pos, aft, none⟩ :: rest) E M := fun h => e_move hx hd h
theorem Qa {v : Value} (hx : rd E x = some v := by rfl) (hd : Nat.blt d n = true := by rfl) : (OpsE Tryd.prog G R ops n K rest ((d, v) :: E) M) → OpsE Tryd.prog G R ops n K (⟨some d, .assign x, ty, pos, aft, none⟩ :: rest) E M := fun h => e_assign hx hd h
theorem Qx {i : Nat} {vs : Array Value} {v : Value} (hx : rd E x = some (.tuple vs) := by rfl) (hv : vs[i]? = some v := by rfl) (hd : Nat.blt d n = true := by rfl) : (OpsE Tryd.prog G R ops n K rest ((d, v) :: E) M) → OpsE Tryd.prog G R ops n K (⟨some d, .extract x i, ty, pos, aft, none⟩ :: rest) E M := fun h => e_extract hx hv hd h
theorem Qy {dd : Option Tmp} {op : Op} {g : Nat} {s : Nat} {want : Bool} {b : Bool} (hg : (ops[g]?).bind (·.dst) = some s := by rfl) (hb : lk E s = some (.bool b) := by rfl) (hw : b = want := by rfl) : (OpsE Tryd.prog G R ops n K (⟨dd, op, ty, pos, aft, none⟩ :: rest) E M) → OpsE Tryd.prog G R ops n K (⟨dd, op, ty, pos, aft, some (g, want)⟩ :: rest) E M := fun h => e_yes hg hb hw h
theorem Qo {op : Op} {g : Nat} {s : Nat} {want : Bool} {b : Bool} (hg : (ops[g]?).bind (·.dst) = some s := by rfl) (hb : lk E s = some (.bool b) := by rfl) (hw : b ≠ want := by decide) (hd : Nat.blt d n = true := by rfl) : (OpsE Tryd.prog G R ops n K rest ((d, undef) :: E) M) → OpsE Tryd.prog G R ops n K (⟨some d, op, ty, pos, aft, some (g, want)⟩ :: rest) E M := fun h => e_no hg hb hw hd h
theorem QT {p : Operand} {q : Operand} {r : Operand} {t : Bool} {v : Value} (hc : rd E p = some (.bool t) := by rfl) (ht : t = true := by rfl) (hv : rd E q = some v := by rfl) (hd : Nat.blt d n = true := by rfl) : (OpsE Tryd.prog G R ops n K rest ((d, v) :: E) M) → OpsE Tryd.prog G R ops n K (⟨some d, .pick p q r, ty, pos, aft, none⟩ :: rest) E M := fun h => e_pickT hc ht hv hd h
theorem QF {p : Operand} {q : Operand} {r : Operand} {t : Bool} {v : Value} (hc : rd E p = some (.bool t) := by rfl) (ht : t = false := by rfl) (hv : rd E r = some v := by rfl) (hd : Nat.blt d n = true := by rfl) : (OpsE Tryd.prog G R ops n K rest ((d, v) :: E) M) → OpsE Tryd.prog G R ops n K (⟨some d, .pick p q r, ty, pos, aft, none⟩ :: rest) E M := fun h => e_pickF hc ht hv hd h
theorem Qg {id : Nat} (hm : Tryd.prog.follows .mixedOrders = true := by exact mixed) (hok : orderOk noReg ops (List.range ops.size) = true := by kernel_rfl) : (OpsE Tryd.prog G noReg ops n (Q .normal) ops.toList E M) → SatE Tryd.prog G (.region id ops true) n Q E M := fun h => e_draw hm hok h
theorem QR {id : Nat} (R : Reg) : (OpsE Tryd.prog G R ops n (Q .normal) ops.toList E M) → SatE Tryd.prog G (.region id ops false) n Q E M := fun h => e_plainR R h
theorem Qq {id : Nat} (R : Reg) (hm : Tryd.prog.follows .mixedOrders = true := by exact mixed) (hok : orderOk R ops (List.range ops.size) = true := by kernel_rfl) : (OpsE Tryd.prog G R ops n (Q .normal) ops.toList E M) → SatE Tryd.prog G (.region id ops true) n Q E M := fun h => e_drawR R hm hok h
theorem Ql {k : IntKind} {p : Int} {q : Int} (hx : rd E x = some (.int k p) := by rfl) (hy : rd E y = some (.int k q) := by rfl) (hd : Nat.blt d n = true := by rfl) : (OpsE Tryd.prog G R ops n K rest ((d, .bool (decide (p < q))) :: E) M) → OpsE Tryd.prog G R ops n K (⟨some d, .binOp .lss T x y T', ty, pos, aft, none⟩ :: rest) E M := fun h => e_lt hx hy hd h
theorem QG {k : IntKind} {p : Int} {q : Int} (hx : rd E x = some (.int k p) := by rfl) (hy : rd E y = some (.int k q) := by rfl) (hd : Nat.blt d n = true := by rfl) : (OpsE Tryd.prog G R ops n K rest ((d, .bool (decide (q < p))) :: E) M) → OpsE Tryd.prog G R ops n K (⟨some d, .binOp .gtr T x y T', ty, pos, aft, none⟩ :: rest) E M := fun h => e_gt hx hy hd h
theorem QL {k : IntKind} {p : Int} {q : Int} (hx : rd E x = some (.int k p) := by rfl) (hy : rd E y = some (.int k q) := by rfl) (hd : Nat.blt d n = true := by rfl) : (OpsE Tryd.prog G R ops n K rest ((d, .bool (decide (p ≤ q))) :: E) M) → OpsE Tryd.prog G R ops n K (⟨some d, .binOp .leq T x y T', ty, pos, aft, none⟩ :: rest) E M := fun h => e_le hx hy hd h
theorem QE {k : IntKind} {p : Int} {q : Int} (hx : rd E x = some (.int k p) := by rfl) (hy : rd E y = some (.int k q) := by rfl) (hd : Nat.blt d n = true := by rfl) : (OpsE Tryd.prog G R ops n K rest ((d, .bool (decide (q ≤ p))) :: E) M) → OpsE Tryd.prog G R ops n K (⟨some d, .binOp .geq T x y T', ty, pos, aft, none⟩ :: rest) E M := fun h => e_ge hx hy hd h
theorem Qc {k : IntKind} {p : Int} {q : Int} (hx : rd E x = some (.int k p) := by rfl) (hy : rd E y = some (.int k q) := by rfl) (hd : Nat.blt d n = true := by rfl) : (OpsE Tryd.prog G R ops n K rest ((d, .bool (decide (p = q))) :: E) M) → OpsE Tryd.prog G R ops n K (⟨some d, .binOp .eql T x y T', ty, pos, aft, none⟩ :: rest) E M := fun h => e_eq hx hy hd h
theorem QN {k : IntKind} {p : Int} {q : Int} (hx : rd E x = some (.int k p) := by rfl) (hy : rd E y = some (.int k q) := by rfl) (hd : Nat.blt d n = true := by rfl) : (OpsE Tryd.prog G R ops n K rest ((d, .bool (decide (p ≠ q))) :: E) M) → OpsE Tryd.prog G R ops n K (⟨some d, .binOp .neq T x y T', ty, pos, aft, none⟩ :: rest) E M := fun h => e_ne hx hy hd h
theorem Q0 {b : Bool} (hx : rd E x = some (.bool b) := by rfl) (hd : Nat.blt d n = true := by rfl) : (OpsE Tryd.prog G R ops n K rest ((d, .bool (!b)) :: E) M) → OpsE Tryd.prog G R ops n K (⟨some d, .unOp .not T x, ty, pos, aft, none⟩ :: rest) E M := fun h => e_not hx hd h
theorem QD {b : Nat} {l : Nat} {c : Array Value} {t : TypeId} {td : TypeDesc} (i : Nat) (hT : Tryd.prog.underlying T = some td := by exact Tu rfl) (hn : rowLike td = true := by rfl) (hs : (Tryd.prog.info? T).map (·.size) = some l := by exact Tz rfl) (hx : rd E x = some (.pointer (some ⟨b, 0, none⟩)) := by rfl) (hm : lkM M i = some ⟨b, c, t⟩ := by rfl) (hl : c.size = l := by exact (arrv_size _ _)) (hd : Nat.blt d n = true := by rfl) (hX : ∃ js, okXL M i js R := by exact ⟨[], trivial⟩) : (OpsE Tryd.prog G R ops n K rest ((d, .agg c) :: E) M) → OpsE Tryd.prog G R ops n K (⟨some d, .load T x, ty, pos, aft, none⟩ :: rest) E M := fun h => e_loadA (i := i) hT hn hs hx hm hl hd hX h
theorem Q1 {b : Nat} {o : Nat} {c : Array Value} {t : TypeId} {v : Value} {td : TypeDesc} (i : Nat) (hT : Tryd.prog.underlying T = some td := by exact Tu rfl) (hn : rowLike td = false := by rfl) (hx : rd E x = some (.pointer (some ⟨b, o, none⟩)) := by rfl) (hm : lkM M i = some ⟨b, c, t⟩ := by rfl) (hc : c[o]? = some v := by exact (arr_get (by omega))) (hd : Nat.blt d n = true := by rfl) (hX : ∃ js, okXL M i js R := by exact ⟨[], trivial⟩) : (OpsE Tryd.prog G R ops n K rest ((d, v) :: E) M) → OpsE Tryd.prog G R ops n K (⟨some d, .load T x, ty, pos, aft, none⟩ :: rest) E M := fun h => e_load1 (i := i) hT hn hx hm hc hd hX h
theorem Qt {b : Nat} {l : Nat} {c : Array Value} {c' : Array Value} {t : TypeId} (i : Nat) (hs : (Tryd.prog.info? T).map (·.size) = some l := by exact Tz rfl) (hx : rd E x = some (.pointer (some ⟨b, 0, none⟩)) := by rfl) (hy : rd E y = some (.agg c') := by rfl) (hl : c'.size = l := by exact (arr_size _ _ _)) (hv : ∀ v ∈ c', v.oneCell' = true := by exact arr_one) (hm : lkM M i = some ⟨b, c, t⟩ := by rfl) (ho : c'.size = c.size := by exact (arr_sz _ _ _ _ _)) (hX : R.X = [] ∨ b ∈ R.X := by exact (.inl rfl)) : (OpsE Tryd.prog G R ops n K rest E ((i, some ⟨b, c', t⟩) :: M)) → OpsE Tryd.prog G R ops n K (⟨none, .store T x y, ty, pos, aft, none⟩ :: rest) E M := fun h => e_storeA (i := i) hs hx hy hl hv hm ho hX h
theorem Qf {b : Nat} {o : Nat} {f : Nat} {sz : Nat} {fs : Array Field} {fd : Field} (o' : Nat) (hT : Tryd.prog.underlying T = some (.struct fs) := by exact Tu rfl) (hf : fs[f]? = some fd := by rfl) (hs : (Tryd.prog.info? fd.type).map (·.size) = some (sz + 1) := by exact Tz rfl) (hx : rd E x = some (.pointer (some ⟨b, o, none⟩)) := by rfl) (ho : o + fd.offset = o' := by rfl) (hd : Nat.blt d n = true := by rfl) : (OpsE Tryd.prog G R ops n K rest ((d, .pointer (some ⟨b, o', none⟩)) :: E) M) → OpsE Tryd.prog G R ops n K (⟨some d, .fieldAddr T x f, ty, pos, aft, none⟩ :: rest) E M := fun h => e_fld o' hT hf hs hx ho hd h
theorem Qi {b : Nat} {j : Nat} {l : Nat} {k : IntKind} {e : TypeId} (hT : Tryd.prog.underlying T = some (.array l e) := by exact Tu rfl) (hs : (Tryd.prog.info? e).map (·.size) = some 1 := by exact Tz rfl) (hx : rd E x = some (.pointer (some ⟨b, 0, none⟩)) := by rfl) (hy : rd E y = some (.int k (j : Int)) := by rfl) (hj : j < l := by omega) (hd : Nat.blt d n = true := by rfl) : (OpsE Tryd.prog G R ops n K rest ((d, .pointer (some ⟨b, j, none⟩)) :: E) M) → OpsE Tryd.prog G R ops n K (⟨some d, .indexAddr T x y, ty, pos, aft, none⟩ :: rest) E M := fun h => e_index0 hT hs hx hy hj hd h
theorem Qj {b : Nat} {l : Nat} {k : IntKind} {e : TypeId} (j : Nat) (hT : Tryd.prog.underlying T = some (.array l e) := by exact Tu rfl) (hs : (Tryd.prog.info? e).map (·.size) = some 1 := by exact Tz rfl) (hx : rd E x = some (.pointer (some ⟨b, 0, none⟩)) := by rfl) (hy : rd E y = some (.int k (j : Int)) := by rfl) (hj : j < l := by omega) (hd : Nat.blt d n = true := by rfl) : (OpsE Tryd.prog G R ops n K rest ((d, .pointer (some ⟨b, j, none⟩)) :: E) M) → OpsE Tryd.prog G R ops n K (⟨some d, .indexAddr T x y, ty, pos, aft, none⟩ :: rest) E M := fun h => e_index0 (j := j) hT hs hx hy hj hd h
theorem QA {b : Nat} {o : Nat} {l : Nat} {z : Nat} {k : IntKind} {e : TypeId} (o' : Nat) (j : Nat) (hT : Tryd.prog.underlying T = some (.array l e) := by exact Tu rfl) (hs : (Tryd.prog.info? e).map (·.size) = some (z + 1) := by exact Tz rfl) (hx : rd E x = some (.pointer (some ⟨b, o, none⟩)) := by rfl) (hy : rd E y = some (.int k (j : Int)) := by rfl) (hj : j < l := by omega) (ho : o + j * (z + 1) = o' := by omega) (hd : Nat.blt d n = true := by rfl) : (OpsE Tryd.prog G R ops n K rest ((d, .pointer (some ⟨b, o', none⟩)) :: E) M) → OpsE Tryd.prog G R ops n K (⟨some d, .indexAddr T x y, ty, pos, aft, none⟩ :: rest) E M := fun h => e_at (j := j) o' hT hs hx hy hj ho hd h
theorem QB {b : Nat} {o : Nat} {j : Nat} {l : Nat} {z : Nat} {k : IntKind} {e : TypeId} (o' : Nat) (hT : Tryd.prog.underlying T = some (.array l e) := by exact Tu rfl) (hs : (Tryd.prog.info? e).map (·.size) = some (z + 1) := by exact Tz rfl) (hx : rd E x = some (.pointer (some ⟨b, o, none⟩)) := by rfl) (hy : rd E y = some (.int k (j : Int)) := by rfl) (hj : j < l := by omega) (ho : o + j * (z + 1) = o' := by omega) (hd : Nat.blt d n = true := by rfl) : (OpsE Tryd.prog G R ops n K rest ((d, .pointer (some ⟨b, o', none⟩)) :: E) M) → OpsE Tryd.prog G R ops n K (⟨some d, .indexAddr T x y, ty, pos, aft, none⟩ :: rest) E M := fun h => e_at o' hT hs hx hy hj ho hd h
theorem Qh {v : Value} (i : Nat) (hx : rd E x = some v := by rfl) (hd : Nat.blt d n = true := by rfl) : (∀ r, OpsE Tryd.prog G R ops n K rest ((d, ptr r) :: E) ((i, some ⟨r, v.cells, T⟩) :: M)) → OpsE Tryd.prog G R ops n K (⟨some d, .box T x, ty, pos, aft, none⟩ :: rest) E M := fun h => e_box i hx hd h
theorem QH {z : Value} (i : Nat) (hz : (Tryd.prog.info? T).bind (·.zero) = some z := by exact Tb rfl) (hd : Nat.blt d n = true := by rfl) : (∀ r, OpsE Tryd.prog G R ops n K rest ((d, ptr r) :: E) ((i, some ⟨r, z.cells, T⟩) :: M)) → OpsE Tryd.prog G R ops n K (⟨some d, .alloc T, ty, pos, aft, none⟩ :: rest) E M := fun h => e_alloc i hz hd h
theorem QV {b : Nat} {o : Nat} {N : Nat} {v : Value} {ps : List Part} {t : TypeId} {td : TypeDesc} (k : Nat) (i : Nat) (hT : Tryd.prog.underlying T = some td := by exact Tu rfl) (hn : rowLike td = false := by rfl) (hx : rd E x = some (.pointer (some ⟨b, o, none⟩)) := by rfl) (hm : lkM M i = some ⟨b, cells N ps, t⟩ := by rfl) (hk : catAt ps k = some (o, pV v) := by rfl) (hN : o < N := by decide) (hd : Nat.blt d n = true := by rfl) (hX : ∃ js, okXL M i js R := by exact ⟨[], trivial⟩) : (OpsE Tryd.prog G R ops n K rest ((d, v) :: E) M) → OpsE Tryd.prog G R ops n K (⟨some d, .load T x, ty, pos, aft, none⟩ :: rest) E M := fun h => e_ldV1 (i := i) k hT hn hx hm hk hN hd hX h
theorem Q2 {p : Nat} (q : Nat) (hx : rd E x = some (ii p) := by rfl) (hy : rd E y = some (ii q) := by rfl) (hd : Nat.blt d n = true := by rfl) (hb : p + q < 9223372036854775808 := by omega) : (OpsE Tryd.prog G R ops n K rest ((d, ii (p + q)) :: E) M) → OpsE Tryd.prog G R ops n K (⟨some d, .binOp .add T x y T', ty, pos, aft, none⟩ :: rest) E M := fun h => e_add_i (q := q) hx hy hd hb h
theorem Q3 {p : Nat} {q : Nat} (hx : rd E x = some (ii p) := by rfl) (hy : rd E y = some (ii q) := by rfl) (hd : Nat.blt d n = true := by rfl) (hb : p + q < 9223372036854775808 := by omega) : (OpsE Tryd.prog G R ops n K rest ((d, ii (p + q)) :: E) M) → OpsE Tryd.prog G R ops n K (⟨some d, .binOp .add T x y T', ty, pos, aft, none⟩ :: rest) E M := fun h => e_add_i hx hy hd hb h
theorem Q5 {p : Nat} (q : Nat) (hx : rd E x = some (ii p) := by rfl) (hy : rd E y = some (ii q) := by rfl) (hd : Nat.blt d n = true := by rfl) (hp : p < 9223372036854775808 := by omega) (hq : 0 < q := by omega) : (OpsE Tryd.prog G R ops n K rest ((d, ii (p / q)) :: E) M) → OpsE Tryd.prog G R ops n K (⟨some d, .binOp .quo T x y T', ty, pos, aft, none⟩ :: rest) E M := fun h => e_quo_i (q := q) hx hy hd hp hq h
theorem QU {l : List Nat} (hT : Tryd.prog.underlying T = some .string := by exact Tu rfl) (hx : rd E x = some (sv l) := by rfl) (hd : Nat.blt d n = true := by rfl) (hR : callOk R = true := by rfl) : (OpsE Tryd.prog G R ops n K rest ((d, ii l.length) :: E) M) → OpsE Tryd.prog G R ops n K (⟨some d, .call ⟨.builtin .len, #[x], #[T]⟩, ty, pos, aft, none⟩ :: rest) E M := fun h => e_lenStr hT hx hd hR h
theorem QC {e : TypeId} {v : Value} {B : Mem} {z : Nat} {k : Nat} {xs : List Value} (hv : Shows B z v k xs) (hT : Tryd.prog.underlying T = some (.slice e) := by exact Tu rfl) (hx : rd E x = some v := by rfl) (hd : Nat.blt d n = true := by rfl) (hR : callOk R = true := by rfl) : (OpsE Tryd.prog G R ops n K rest ((d, ii k) :: E) M) → OpsE Tryd.prog G R ops n K (⟨some d, .call ⟨.builtin .len, #[x], #[T]⟩, ty, pos, aft, none⟩ :: rest) E M := fun h => e_lenV hv hT hx hd hR h
theorem QS {l : List Oper} {s : Nat} {v : Value} {v' : Value} (hv : v = v' := by exact (congrArg (slAddr _) (Nat.mul_one _))) : (OpsE Tryd.prog G R ops n K l ((s, v') :: E) M) → OpsE Tryd.prog G R ops n K l ((s, v) :: E) M := fun h => e_as hv h
theorem Qat {l : List Oper} {s : Nat} {v : Value} {v' : Value} (hv : v = v' := by exact (congrArg Value.bool (decide_eq_true (by omega)))) : (OpsE Tryd.prog G R ops n K l ((s, v') :: E) M) → OpsE Tryd.prog G R ops n K l ((s, v) :: E) M := fun h => e_as hv h
theorem Qaf {l : List Oper} {s : Nat} {v : Value} {v' : Value} (hv : v = v' := by exact (congrArg Value.bool (decide_eq_false (by omega)))) : (OpsE Tryd.prog G R ops n K l ((s, v') :: E) M) → OpsE Tryd.prog G R ops n K l ((s, v) :: E) M := fun h => e_as hv h
theorem Qar {l : List Oper} {s : Nat} {v : Value} {v' : Value} (hv : v = v' := by exact (congrArg Value.bool (decide_eq_true rfl))) : (OpsE Tryd.prog G R ops n K l ((s, v') :: E) M) → OpsE Tryd.prog G R ops n K l ((s, v) :: E) M := fun h => e_as hv h
theorem Qct {c : Operand} {p : Code} {q : Code} (hc : rd E c = some (.bool true) := by rfl) : (SatE Tryd.prog G p n Q E M) → SatE Tryd.prog G (.cond c p q) n Q E M := fun h => e_condT hc h
theorem Qcf {c : Operand} {p : Code} {q : Code} (hc : rd E c = some (.bool false) := by rfl) : (SatE Tryd.prog G q n Q E M) → SatE Tryd.prog G (.cond c p q) n Q E M := fun h => e_condF hc h
theorem QzK {c : Code} (Ek : Env) (Mk : Mm) (I : Nat → Env → Mm → Prop) {E0 : Env} {M0 : Mm} {k : Nat} (h0 : I k E0 M0) (hs : sub (catE E0 Ek) E) (hl : subL (catL M0 Mk) M) (round : ∀ k E M, I k E M → SatE Tryd.prog G c n (thenE (fun E' M' => ∃ k' E'' M'', k' < k ∧ sub (catE E'' Ek) E' ∧ subL (catL M'' Mk) M' ∧ I k' E'' M'') Q) (catE E Ek) (catL M Mk)) : SatE Tryd.prog G (.loop c) n Q E M := e_loopK Ek Mk I E0 M0 k hs hl h0 round
theorem QzL {I : Nat → Env → Mm → Prop} {k k' : Nat} {Ek : Env} {Mk : Mm} {E' : Env} {M' : Mm} {E'' : Env} {M'' : Mm} (h : I k' E'' M'') (hs : sub (catE E'' Ek) E') (hl : subL (catL M'' Mk) M') (hk : k' < k) : ∃ k' E'' M'', k' < k ∧ sub (catE E'' Ek) E' ∧ subL (catL M'' Mk) M' ∧ I k' E'' M'' := ⟨_, _, _, hk, hs, hl, h⟩
theorem Qf1 {f : FuncId} {fn : Func} {c : Code} {vs : List Value} {v : Value} (hf : Tryd.prog.funcs[f]? = some fn) (h : SatE Tryd.prog G c n (End1 Tryd.prog fn v) (argE vs 0) []) (hb : fn.body = some c := by rfl) (hn : fn.ntmps = n := by rfl) (ha : vs.toArray.size ≤ n := by simp) : Fn Tryd.prog G f vs.toArray v := fn1 hf hb hn ha (argE vs 0) (argE_ok vs) h
theorem Qf2 {f : FuncId} {fn : Func} {c : Code} {vs : List Value} {v v' : Value} (hf : Tryd.prog.funcs[f]? = some fn) (h : SatE Tryd.prog G c n (End2 Tryd.prog fn v v') (argE vs 0) []) (hb : fn.body = some c := by rfl) (hn : fn.ntmps = n := by rfl) (ha : vs.toArray.size ≤ n := by simp) : Fn Tryd.prog G f vs.toArray (.tuple #[v, v']) := fn2 hf hb hn ha (argE vs 0) (argE_ok vs) h
theorem Qf3 {f : FuncId} {fn : Func} {c : Code} {vs : List Value} {v v' v'' : Value} (hf : Tryd.prog.funcs[f]? = some fn) (h : SatE Tryd.prog G c n (End3 Tryd.prog fn v v' v'') (argE vs 0) []) (hb : fn.body = some c := by rfl) (hn : fn.ntmps = n := by rfl) (ha : vs.toArray.size ≤ n := by simp) : Fn Tryd.prog G f vs.toArray (.tuple #[v, v', v'']) := fn3 hf hb hn ha (argE vs 0) (argE_ok vs) h
theorem QfN {f : FuncId} {fn : Func} {c : Code} {vs : List Value} {e : TypeId} {z k : Nat} {xs : List Value} (hf : Tryd.prog.funcs[f]? = some fn) (h : SatE Tryd.prog G c n (EndN Tryd.prog e z k xs fn) (argE vs 0) []) (hb : fn.body = some c := by rfl) (hn : fn.ntmps = n := by rfl) (ha : vs.toArray.size ≤ n := by simp) : Fx Tryd.prog G [] f vs.toArray (fun v l1 nw => l1 = [] ∧ ∃ v', v = v' ∧ OwnS e z v' k xs nw) := fxN hf hb hn ha (argE vs 0) (argE_ok vs) h
theorem QfM {f : FuncId} {fn : Func} {c : Code} {vs : List Value} {e : TypeId} {z k : Nat} {xs : List Value} {u : Value} (hf : Tryd.prog.funcs[f]? = some fn) (h : SatE Tryd.prog G c n (EndN2 Tryd.prog e z k xs u fn) (argE vs 0) []) (hb : fn.body = some c := by rfl) (hn : fn.ntmps = n := by rfl) (ha : vs.toArray.size ≤ n := by simp) : Fx Tryd.prog G [] f vs.toArray (fun v l1 nw => l1 = [] ∧ ∃ v', v = .tuple #[v', u] ∧ OwnS e z v' k xs nw) := fxN2 hf hb hn ha (argE vs 0) (argE_ok vs) h
theorem QfO {f : FuncId} {fn : Func} {c : Code} {vs : List Value} {e : TypeId} {z k : Nat} {xs : List Value} {q u : Value} (hf : Tryd.prog.funcs[f]? = some fn) (h : SatE Tryd.prog G c n (EndN3 Tryd.prog e z k xs q u fn) (argE vs 0) []) (hb : fn.body = some c := by rfl) (hn : fn.ntmps = n := by rfl) (ha : vs.toArray.size ≤ n := by simp) : Fx Tryd.prog G [] f vs.toArray (fun v l1 nw => l1 = [] ∧ ∃ v', v = .tuple #[q, v', u] ∧ OwnS e z v' k xs nw) := fxN3 hf hb hn ha (argE vs 0) (argE_ok vs) h
abbrev Sh (G : Mem) (v : Value) (l : List Nat) : Prop := Shows G 1 v l.length (l.map by8)
abbrev By (l : List Nat) : Prop := ∀ b ∈ l, b < 256
abbrev L8 (n : Nat) (f : Nat → Nat) : Prop := ∀ j, j < n → f j < 256
end Go.Proofs.YtejejmhbhegneaaDoor
namespace Go.Proofs.YtejejmhbhegneaaDoor
open Go Go.RowKit
theorem pls26 (w : World) : (((#[.mk "Base" 9 0 false "" "" 0, .mk "Late" 4 1 false "" "" 16, .mk "Psks" 22 2 false "" "" 24, .mk "Pre" 23 3 false "" "" 48, .mk "Turns" 24 5 false "" "" 96] : Array Field).mapM fun f => do pure (f.offset, ← sizeOf f.type) : Sem (Array (Nat × Nat)))).run Tryd.prog w = .ok #[(0, 1), (1, 1), (2, 1), (3, 2), (5, 1)] w := places_run (l := [(0, 1), (1, 1), (2, 1), (3, 2), (5, 1)]) (by kernel_rfl) w
end Go.Proofs.YtejejmhbhegneaaDoor
namespace Go.Proofs.YtejejmhbhegneaaDoor
open Go Go.RowKit
end Go.Proofs.YtejejmhbhegneaaDoor
