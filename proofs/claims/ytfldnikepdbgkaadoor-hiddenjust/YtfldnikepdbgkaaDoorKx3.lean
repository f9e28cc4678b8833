import Derived.Test.YtfldnikepdbgkaaDoorKx2
import Derived.Lib.Bytealg
import Derived.Lib.IndexEntry
import Derived.Lib.Join
import Derived.ScopeJumps
namespace Go.Proofs.YtfldnikepdbgkaaDoor
open Go Go.ChangeShapes Go.WideShapes Go.ChangeAt Go.RowKit
section
variable {P : Program} {G : Mem}
end
section
variable {P : Program} {H : Type} {enc : TypeId × Value → H}
end
theorem wrong_no {l : List Int} (h : l.any wrong = false) : l = ci (l.map Int.toNat) := by
  rw [List.any_eq_false] at h
  unfold ci
  rw [List.map_map]
  conv => lhs; rw [← List.map_id l]
  refine List.map_congr_left fun x hx => ?_
  have := h x hx
  simp [wrong] at this
  show x = ((x.toNat : Nat) : Int)
  omega
theorem first1_zero : ∀ {ls : List (List Int)}, first1 ls = 0 → ∀ t ∈ ls, t.length ≤ 6 ∧ t.any wrong = false
  | t :: r, h, x, hx => by
    rw [first1] at h
    by_cases h6 : 6 < t.length
    · rw [if_pos h6] at h; cases h
    · rw [if_neg h6] at h
      cases hw : t.any wrong with
      | true => rw [hw, if_pos rfl] at h; cases h
      | false =>
        rw [hw, if_neg (by decide)] at h
        rcases List.mem_cons.1 hx with rfl | hx
        · exact ⟨by omega, hw⟩
        · exact first1_zero h x hx
def pfault (late : Bool) (p0 p1 : List Int) (ts : List (List Int)) : Nat :=
  if ts.length = 0 ∨ 5 < ts.length then 1 else if first1 (p0 :: p1 :: ts) = 0 then fin3 (evL late (p0.map Int.toNat) (p1.map Int.toNat) (ts.map fun t => t.map Int.toNat)) else first1 (p0 :: p1 :: ts)
end Go.Proofs.YtfldnikepdbgkaaDoor
namespace Go.Proofs.YtfldnikepdbgkaaDoor
open Go Go.RowKit
theorem hap_push (es : List Ev) (e : Ev) (who tok : Int) : hap (es ++ [e]) who tok = (hap es who tok || hit who tok e) := by simp [hap]
def stE (es : List Ev) (i : Nat) : Bool := if i < 6 then (decide (i % 3 ≠ 0) && hap es ((i / 3 : Nat) : Int) ((i % 3 : Nat) : Int)) else (decide (9 ≤ i) && hap es (-1) ((i - 6 : Nat) : Int))
abbrev kst (s : Nat → Bool) : Array Value := arrv 14 (fun i => .bool (s i))
theorem stE_nil (i : Nat) : stE [] i = false := by unfold stE; split <;> simp [hap]
theorem stE_key {es : List Ev} {w k : Nat} (hk : k = 1 ∨ k = 2) (hw : w < 2) : stE es (3 * w + k) = hap es (w : Int) (k : Int) := by
  have h1 : (3 * w + k) / 3 = w ∧ (3 * w + k) % 3 = k := by omega
  rw [stE, if_pos (by omega), h1.1, h1.2, decide_eq_true (by omega)]; rfl
theorem stE_been {es : List Ev} {t : Nat} (h3 : 3 ≤ t) : stE es (6 + t) = hap es (-1) (t : Int) := by
  rw [stE, if_neg (by omega), decide_eq_true (by omega), show 6 + t - 6 = t by omega]; rfl
theorem stE_push_key {es : List Ev} {w k : Nat} (hk : k = 1 ∨ k = 2) (hw : w < 2) (j : Nat) : stE (es ++ [(w, k)]) j = (stE es j || decide (j = 3 * w + k)) := by
  unfold stE
  by_cases h6 : j < 6
  · rw [if_pos h6, if_pos h6, hap_push]
    have e : hit ((j / 3 : Nat) : Int) ((j % 3 : Nat) : Int) (w, k) = decide (j = 3 * w + k) := by
      unfold hit
      rw [Bool.eq_iff_iff]
      simp only [Bool.and_eq_true, Bool.or_eq_true, decide_eq_true_eq]
      omega
    rw [e]
    by_cases h0 : j % 3 = 0
    · have h1 : ¬ j = 3 * w + k := by omega
      simp [h0, h1]
    · simp [h0]
  · rw [if_neg h6, if_neg h6, hap_push]
    have e : hit (-1) ((j - 6 : Nat) : Int) (w, k) = decide (k = j - 6) := by
      unfold hit
      rw [Bool.eq_iff_iff]
      simp only [Bool.and_eq_true, Bool.or_eq_true, decide_eq_true_eq]
      omega
    rw [e]
    have h1 : ¬ j = 3 * w + k := by omega
    by_cases h9 : 9 ≤ j
    · have h2 : ¬ k = j - 6 := by omega
      simp [h1, h2]
    · simp [h1, h9]
theorem stE_push_tok {es : List Ev} {w t : Nat} (h3 : 3 ≤ t) (h7 : t ≤ 7) (j : Nat) : stE (es ++ [(w, t)]) j = (stE es j || decide (j = 6 + t)) := by
  unfold stE
  by_cases h6 : j < 6
  · rw [if_pos h6, if_pos h6, hap_push]
    have e : hit ((j / 3 : Nat) : Int) ((j % 3 : Nat) : Int) (w, t) = false := by
      unfold hit
      rw [decide_eq_false (by show ¬ ((t : Int) = _); omega)]; rfl
    have h1 : ¬ j = 6 + t := by omega
    rw [e]; simp [h1]
  · rw [if_neg h6, if_neg h6, hap_push]
    have e : hit (-1) ((j - 6 : Nat) : Int) (w, t) = decide (j = 6 + t) := by
      unfold hit
      rw [Bool.eq_iff_iff]
      simp only [Bool.and_eq_true, Bool.or_eq_true, decide_eq_true_eq]
      omega
    rw [e]
    by_cases h9 : 9 ≤ j
    · simp [h9]
    · have h1 : ¬ j = 6 + t := by omega
      simp [h1, h9]
theorem stE_push_zero {es : List Ev} {w : Nat} (j : Nat) : stE (es ++ [(w, 0)]) j = stE es j := by
  unfold stE
  by_cases h6 : j < 6
  · rw [if_pos h6, if_pos h6, hap_push]
    by_cases h0 : j % 3 = 0
    · simp [h0]
    · have e : hit ((j / 3 : Nat) : Int) ((j % 3 : Nat) : Int) (w, 0) = false := by
        unfold hit
        rw [decide_eq_false (by show ¬ (((0 : Nat) : Int) = _); omega)]; rfl
      rw [e]; simp
  · rw [if_neg h6, if_neg h6, hap_push]
    by_cases h9 : 9 ≤ j
    · have e : hit (-1) ((j - 6 : Nat) : Int) (w, 0) = false := by
        unfold hit
        rw [decide_eq_false (by show ¬ (((0 : Nat) : Int) = _); omega)]; rfl
      rw [e]; simp
    · simp [h9]
theorem kst_zero {es : List Ev} {w : Nat} : kst (stE (es ++ [(w, 0)])) = kst (stE es) := arrv_congr fun j _ => by rw [stE_push_zero]
theorem kst_key {es : List Ev} {w k : Nat} (hk : k = 1 ∨ k = 2) (hw : w < 2) : arrv 14 (updv (fun i => .bool (stE es i)) (3 * w + k) (.bool true)) = kst (stE (es ++ [(w, k)])) := arrv_congr fun j _ => by
  rw [stE_push_key hk hw, updv]
  by_cases e : j = 3 * w + k
  · rw [if_pos e, decide_eq_true e, Bool.or_true]
  · rw [if_neg e, decide_eq_false e, Bool.or_false]
theorem kst_tok {es : List Ev} {w t : Nat} (h3 : 3 ≤ t) (h7 : t ≤ 7) : arrv 14 (updv (fun i => .bool (stE es i)) (6 + t) (.bool true)) = kst (stE (es ++ [(w, t)])) := arrv_congr fun j _ => by
  rw [stE_push_tok h3 h7, updv]
  by_cases e : j = 6 + t
  · rw [if_pos e, decide_eq_true e, Bool.or_true]
  · rw [if_neg e, decide_eq_false e, Bool.or_false]
def mlS (s : Nat → Bool) (w : Nat) : Bool := !(s 13 && !(s (3 * w + 1))) && (!(s (6 + mown w) && !(s 9)) && (!(s 12) || s (6 + mfre w)))
theorem mlS_stE {es : List Ev} {w : Nat} (hw : w < 2) : mlS (stE es) w = (!(locksE es) || mlock es w) := by
  have a13 : stE es 13 = hap es (-1) 7 := stE_been (es := es) (t := 7) (by decide)
  have a9 : stE es 9 = hap es (-1) 3 := stE_been (es := es) (t := 3) (by decide)
  have a12 : stE es 12 = hap es (-1) 6 := stE_been (es := es) (t := 6) (by decide)
  have a10 : stE es (6 + 4) = hap es (-1) 4 := stE_been (es := es) (t := 4) (by decide)
  have a11 : stE es (6 + 5) = hap es (-1) 5 := stE_been (es := es) (t := 5) (by decide)
  have hw2 : w = 0 ∨ w = 1 := by omega
  rcases hw2 with rfl | rfl
  · have ak : stE es (3 * 0 + 1) = hap es 0 1 := stE_key (es := es) (w := 0) (k := 1) (.inl rfl) (by decide)
    have m1 : mown ((0 : Nat) : Int) = 5 := rfl
    have m2 : mfre ((0 : Nat) : Int) = 4 := rfl
    rw [mlS, m1, m2, a13, a9, a12, a10, a11, ak, mlock, m1, m2, locksE]
    show _ = (!_ || (!(hap es (-1) 7 && !(hap es 0 1)) && ((!(hap es (-1) 5) || hap es (-1) 3) && (!(hap es (-1) 6) || hap es (-1) 4))))
    generalize hap es (-1) 7 = x7
    generalize hap es (-1) 3 = x3
    generalize hap es (-1) 4 = x4
    generalize hap es (-1) 5 = x5
    generalize hap es (-1) 6 = x6
    generalize hap es 0 1 = x1
    cases x7 <;> cases x3 <;> cases x4 <;> cases x5 <;> cases x6 <;> cases x1 <;> rfl
  · have ak : stE es (3 * 1 + 1) = hap es 1 1 := stE_key (es := es) (w := 1) (k := 1) (.inl rfl) (by decide)
    have m1 : mown ((1 : Nat) : Int) = 4 := rfl
    have m2 : mfre ((1 : Nat) : Int) = 5 := rfl
    rw [mlS, m1, m2, a13, a9, a12, a10, a11, ak, mlock, m1, m2, locksE]
    show _ = (!_ || (!(hap es (-1) 7 && !(hap es 1 1)) && ((!(hap es (-1) 4) || hap es (-1) 3) && (!(hap es (-1) 6) || hap es (-1) 5))))
    generalize hap es (-1) 7 = x7
    generalize hap es (-1) 3 = x3
    generalize hap es (-1) 4 = x4
    generalize hap es (-1) 5 = x5
    generalize hap es (-1) 6 = x6
    generalize hap es 1 1 = x1
    cases x7 <;> cases x3 <;> cases x4 <;> cases x5 <;> cases x6 <;> cases x1 <;> rfl
def ltr (t : Nat) : Nat → Nat := fun j => if t = 3 then 1 else if t = 4 then (if j = 0 then 1 else 2) else if t = 5 then (if j = 0 then 2 else 1) else 2
theorem ltr_in (t j : Nat) : ltr t j = 1 ∨ ltr t j = 2 := by
  unfold ltr
  repeat' split
  all_goals omega
def mixB (s : Nat → Bool) (t : Nat) : Bool := s (6 + t) || !(s (ltr t 0)) || !(s (3 + ltr t 1))
theorem mixB_stE {es : List Ev} {w t : Nat} (h3 : 3 ≤ t) (h6 : t ≤ 6) : mixB (stE es) t = !(okT es w t) := by
  have k0 : stE es (ltr t 0) = hap es 0 (ltr t 0 : Nat) := by
    have := stE_key (es := es) (w := 0) (ltr_in t 0) (by decide)
    simpa using this
  have k1 : stE es (3 + ltr t 1) = hap es 1 (ltr t 1 : Nat) := by
    have := stE_key (es := es) (w := 1) (ltr_in t 1) (by decide)
    simpa using this
  rw [mixB, stE_been h3, k0, k1]
  have ht : t = 3 ∨ t = 4 ∨ t = 5 ∨ t = 6 := by omega
  have b3 : ∀ a b c : Bool, (a || !b || !c) = !((b && c) && !a) := by decide
  rcases ht with rfl | rfl | rfl | rfl
  · exact b3 _ _ _
  · exact b3 _ _ _
  · exact b3 _ _ _
  · exact b3 _ _ _
theorem okT_one (es : List Ev) (w : Nat) : okT es w 1 = !(hap es w 1) := rfl
theorem okT_two {es : List Ev} {w : Nat} (hw : w < 2) : okT es w 2 = (mlS (stE es) w && !(hap es w 2)) := by
  rw [mlS_stE hw]
  show (!(hap es w 2) && (!(locksE es) || mlock es w)) = _
  rw [Bool.and_comm]
theorem okT_zero {es : List Ev} {w : Nat} (hw : w < 2) : okT es w 0 = mlS (stE es) w := by rw [mlS_stE hw]; rfl
theorem okPre_tok {es : List Ev} {a x : Nat} : okPre es (a, x) = (decide (x ≤ 2) && !(hap es a x)) := by
  unfold okPre
  by_cases h : x ≤ 2
  · have h2 : decide (2 < ((x : Nat) : Int)) = false := decide_eq_false (by omega)
    show (!(decide (2 < ((x : Nat) : Int)) || _)) = _
    rw [h2, decide_eq_true h]; rfl
  · have h2 : decide (2 < ((x : Nat) : Int)) = true := decide_eq_true (by omega)
    show (!(decide (2 < ((x : Nat) : Int)) || _)) = _
    rw [h2, decide_eq_false h]; rfl
theorem first1_toks {ls : List (List Nat)} (h : first1 (ls.map ci) = 0) : ∀ q ∈ ls, q.length ≤ 6 ∧ ∀ x ∈ q, 1 ≤ x ∧ x ≤ 7 := fun q hq => by
  obtain ⟨h1, h2⟩ := first1_zero h (ci q) (List.mem_map.2 ⟨q, hq, rfl⟩)
  refine ⟨by simpa using h1, fun x hx => ?_⟩
  rw [List.any_eq_false] at h2
  have := h2 (x : Int) (List.mem_map.2 ⟨x, hx, rfl⟩)
  simp [wrong] at this
  omega
theorem first1_split (p0 p1 : List Int) (ts : List (List Int)) : first1 (p0 :: p1 :: ts) = if first1 [p0, p1] = 0 then first1 ts else first1 [p0, p1] := by
  simp only [first1]
  repeat' split
  all_goals first | rfl | contradiction
end Go.Proofs.YtfldnikepdbgkaaDoor
namespace Go.Proofs.YtfldnikepdbgkaaDoor
open Go Go.RowKit
abbrev rowE (w : Nat) (l : List Nat) : List Ev := l.map fun x => (w, x)
def okPR (es : List Ev) (a : Nat) (l : List Nat) : Bool := (List.range l.length).all fun j => okPre (es ++ (rowE a l).take j) (a, l.getD j 0)
def okTR (es : List Ev) (w : Nat) (l : List Nat) : Bool := (List.range (l.length + 1)).all fun j => okT (es ++ (rowE w (l ++ [0])).take j) w ((l ++ [0]).getD j 0)
theorem rowE_next {es : List Ev} {w j : Nat} {l : List Nat} (h : j < l.length) : es ++ (rowE w l).take (j + 1) = (es ++ (rowE w l).take j) ++ [(w, l.getD j 0)] := by
  rw [List.take_add_one, List.append_assoc, List.getElem?_map, List.getElem?_eq_getElem h, List.getD_eq_getElem?_getD, List.getElem?_eq_getElem h]; rfl
theorem rowE_zero {es : List Ev} {w : Nat} {l : List Nat} : es ++ (rowE w l).take 0 = es := by simp
theorem rowE_all {es : List Ev} {w : Nat} {l : List Nat} : es ++ (rowE w l).take l.length = es ++ rowE w l := by
  rw [List.take_of_length_le (by simp)]
theorem all_true {n : Nat} {f : Nat → Bool} (h : ∀ j, j < n → f j = true) : (List.range n).all f = true := by
  rw [List.all_eq_true]; exact fun j hj => h j (by simpa using hj)
theorem all_false {n j : Nat} {f : Nat → Bool} (hj : j < n) (h : f j = false) : (List.range n).all f = false := by
  rw [List.all_eq_false]; exact ⟨j, by simpa using hj, by rw [h]; decide⟩
theorem all_at {n : Nat} {f : Nat → Bool} (h : (List.range n).all f = true) : ∀ j, j < n → f j = true := fun j hj => by
  rw [List.all_eq_true] at h; exact h j (by simpa using hj)
theorem all_not {n : Nat} {f : Nat → Bool} (h : (List.range n).all f = false) : ∃ j, j < n ∧ f j = false := by
  rw [List.all_eq_false] at h
  obtain ⟨j, h1, h2⟩ := h
  exact ⟨j, by simpa using h1, by simpa using h2⟩
theorem rowZ_take {w j : Nat} {l : List Nat} (h : j ≤ l.length) : (rowE w (l ++ [0])).take j = (rowE w l).take j := by
  rw [rowE, List.map_append, List.take_append_of_le_length (by simpa using h)]
theorem rowZ_at {j : Nat} {l : List Nat} (h : j < l.length) : (l ++ [0]).getD j 0 = l.getD j 0 := by
  rw [List.getD_eq_getElem?_getD, List.getElem?_append_left h, ← List.getD_eq_getElem?_getD]
theorem rowZ_end {l : List Nat} : (l ++ [0]).getD l.length 0 = 0 := by
  rw [List.getD_eq_getElem?_getD, List.getElem?_append_right (Nat.le_refl _), Nat.sub_self]; rfl
theorem okTR_step {es : List Ev} {w j : Nat} {l : List Nat} (h : j < l.length) : okT (es ++ (rowE w (l ++ [0])).take j) w ((l ++ [0]).getD j 0) = okT (es ++ (rowE w l).take j) w (l.getD j 0) := by
  rw [rowZ_take (by omega), rowZ_at h]
theorem okTR_last {es : List Ev} {w : Nat} {l : List Nat} : okT (es ++ (rowE w (l ++ [0])).take l.length) w ((l ++ [0]).getD l.length 0) = okT (es ++ rowE w l) w 0 := by
  rw [rowZ_take (Nat.le_refl _), rowZ_end, rowE_all]
theorem okTR_bad {es : List Ev} {w j : Nat} {l : List Nat} (h : j < l.length) (hf : okT (es ++ (rowE w l).take j) w (l.getD j 0) = false) : okTR es w l = false :=
  all_false (j := j) (by omega) (by rw [okTR_step h]; exact hf)
theorem okTR_fin {es : List Ev} {w : Nat} {l : List Nat} (h : ∀ j, j < l.length → okT (es ++ (rowE w l).take j) w (l.getD j 0) = true) : okTR es w l = okT (es ++ rowE w l) w 0 := by
  cases hz : okT (es ++ rowE w l) w 0 with
  | true =>
    refine all_true fun j hj => ?_
    by_cases e : j = l.length
    · subst e; rw [okTR_last]; exact hz
    · rw [okTR_step (by omega)]; exact h j (by omega)
  | false => exact all_false (j := l.length) (by omega) (by rw [okTR_last]; exact hz)
theorem kst_rowZ {es : List Ev} {w : Nat} {l : List Nat} : kst (stE (es ++ rowE w l)) = kst (stE (es ++ rowE w (l ++ [0]))) := by
  rw [show es ++ rowE w (l ++ [0]) = (es ++ rowE w l) ++ [(w, 0)] by simp [rowE], kst_zero]
theorem okPR_bad {es : List Ev} {a j : Nat} {l : List Nat} (h : j < l.length) (hf : okPre (es ++ (rowE a l).take j) (a, l.getD j 0) = false) : okPR es a l = false := all_false h hf
theorem okPR_ok {es : List Ev} {a : Nat} {l : List Nat} (h : ∀ j, j < l.length → okPre (es ++ (rowE a l).take j) (a, l.getD j 0) = true) : okPR es a l = true := all_true h
theorem uptoE_part (L : List (List Ev)) (i j : Nat) : uptoE L i j = uptoE L i 0 ++ (L.getD i []).take j := by simp [uptoE]
theorem pre_row {L : List (List Ev)} {a : Nat} {q : List Nat} (ha : a < 2) (hq : L.getD a [] = rowE a q) {j : Nat} (hj : j < q.length) : okAt L a j = okPre (uptoE L a 0 ++ (rowE a q).take j) (a, q.getD j 0) := by
  rw [okAt, if_pos ha, uptoE_part, hq, map_at hj]
theorem turn_row {L : List (List Ev)} {i w : Nat} {u : List Nat} (hq : L.getD (2 + i) [] = rowE w (u ++ [0])) {j : Nat} (hj : j < u.length + 1) : okAt L (2 + i) j = okT (uptoE L (2 + i) 0 ++ (rowE w (u ++ [0])).take j) w ((u ++ [0]).getD j 0) := by
  rw [okAt, if_neg (by omega), uptoE_part, hq, map_at (by simpa using hj)]; rfl
theorem pre_bad {L : List (List Ev)} {a : Nat} {q : List Nat} (hL : 2 ≤ L.length) (ha : a < 2) (hq : L.getD a [] = rowE a q) (h : okPR (uptoE L a 0) a q = false) : fin3 L = 3 := by
  obtain ⟨j, hj, hf⟩ := all_not h
  exact fin3_bad (i := a) (j := j) (by omega) (by rw [hq]; simpa using hj) (by rw [pre_row ha hq hj]; exact hf)
theorem pre_ok {L : List (List Ev)} {a : Nat} {q : List Nat} (ha : a < 2) (hq : L.getD a [] = rowE a q) (h : okPR (uptoE L a 0) a q = true) : ∀ t, t < (L.getD a []).length → okAt L a t = true := fun t ht => by
  have ht : t < q.length := by rw [hq] at ht; simpa using ht
  rw [pre_row ha hq ht]; exact all_at h t ht
theorem turn_bad {L : List (List Ev)} {i w : Nat} {u : List Nat} (hL : 2 + i < L.length) (hq : L.getD (2 + i) [] = rowE w (u ++ [0])) (h : okTR (uptoE L (2 + i) 0) w u = false) : fin3 L = 3 := by
  obtain ⟨j, hj, hf⟩ := all_not h
  exact fin3_bad (i := 2 + i) (j := j) hL (by rw [hq]; simpa using hj) (by rw [turn_row hq hj]; exact hf)
theorem turn_ok {L : List (List Ev)} {i w : Nat} {u : List Nat} (hq : L.getD (2 + i) [] = rowE w (u ++ [0])) (h : okTR (uptoE L (2 + i) 0) w u = true) : ∀ t, t < (L.getD (2 + i) []).length → okAt L (2 + i) t = true := fun t ht => by
  have ht : t < u.length + 1 := by rw [hq] at ht; simpa using ht
  rw [turn_row hq ht]; exact all_at h t ht
theorem row_next {L : List (List Ev)} {i : Nat} (hi : i < L.length) : uptoE L i 0 ++ L.getD i [] = uptoE L (i + 1) 0 := by
  rw [← uptoE_row hi, uptoE_part L i (L.getD i []).length, List.take_length]
theorem whoT_lt (late : Bool) (i : Nat) : whoT late i < 2 := by unfold whoT; split <;> omega
theorem whoT_next (late : Bool) (i : Nat) : 1 - whoT late i = whoT late (i + 1) := by
  unfold whoT
  split <;> omega
theorem pre_two {r : Nat} {t : TypeId} {b c d v0 v1 e : Value} : Shows [(⟨r, cells 6 [pV b, pV c, pV d, pV v0, pV v1, pV e], t⟩ : Blk)] 1 (.slice (some ⟨r, 3, none⟩) 2 2) [v0, v1].length [v0, v1] :=
  .inr ⟨r, 3, 2, cells 6 [pV b, pV c, pV d, pV v0, pV v1, pV e], t, rfl, Nat.le_refl _, List.mem_singleton.2 rfl, rfl, by rw [arrv_size]; exact (by decide : 3 + 2 * 1 ≤ 6), fun j u hj => by
    match j, hj with
    | 0, hj => exact hj
    | 1, hj => exact hj
    | j + 2, hj => simp at hj⟩
theorem li_two {B : Mem} {v0 v1 : Value} {vs : List Value} {p0 p1 : List Int} {ts : List (List Int)} (h : ShowsLI B (v0 :: v1 :: vs) (p0 :: p1 :: ts)) : ShowsLI B [v0, v1] [p0, p1] := ⟨rfl, fun i hi => by
  match i, hi with
  | 0, _ => exact h.2 0 (by simp)
  | 1, _ => exact h.2 1 (by simp)
  | i + 2, hi => exact absurd hi (by simp)⟩
end Go.Proofs.YtfldnikepdbgkaaDoor
namespace Go.Proofs.YtfldnikepdbgkaaDoor
open Go Go.RowKit
def ixb : List Nat → Nat → Option Nat
  | [], _ => none
  | b :: l, c => if b = c then some 0 else (ixb l c).map (· + 1)
def splitB : List Nat → Nat → List (List Nat)
  | [], _ => [[]]
  | b :: l, c => if b = c then [] :: splitB l c else
    match splitB l c with
    | [] => [[b]]
    | w :: r => (b :: w) :: r
end Go.Proofs.YtfldnikepdbgkaaDoor
namespace Go.Proofs.YtfldnikepdbgkaaDoor
open Go Go.RowKit
def asp (b : Nat) : Nat := if b = 32 ∨ (9 ≤ b ∧ b ≤ 13) then 1 else 0
def fldGo : List Nat → List Nat → List (List Nat)
  | cur, [] => if cur = [] then [] else [cur]
  | cur, b :: l => if asp b = 0 then fldGo (cur ++ [b]) l else if cur = [] then fldGo [] l else cur :: fldGo [] l
def fieldsL (l : List Nat) : List (List Nat) := fldGo [] l
theorem fld_app : ∀ (w cur l : List Nat), (∀ b ∈ w, asp b = 0) → fldGo cur (w ++ l) = fldGo (cur ++ w) l
  | [], cur, l, _ => by simp
  | b :: w, cur, l, h => by
    rw [List.cons_append, fldGo, if_pos (h b List.mem_cons_self), fld_app w (cur ++ [b]) l (fun x hx => h x (List.mem_cons_of_mem _ hx)), List.append_assoc, List.singleton_append]
end Go.Proofs.YtfldnikepdbgkaaDoor
namespace Go.Proofs.YtfldnikepdbgkaaDoor
open Go Go.RowKit
abbrev nm8 : List (List Nat) := [[], [101], [115], [101, 101], [101, 115], [115, 101], [115, 115], [112, 115, 107]]
def tokOf (w : List Nat) (j : Nat) : List Nat := (List.range j).filter (fun t => decide (nm8.getD t [] = w))
def toks (l : List Nat) : List Nat := (fieldsL l).flatMap (fun w => tokOf w 8)
theorem texts_at {ws : List (List Nat)} {i : Nat} (h : i < ws.length) : (ws.map sv)[i]? = some (sv (ws.getD i [])) := by
  rw [List.getElem?_map, List.getElem?_eq_getElem h, List.getD_eq_getElem?_getD, List.getElem?_eq_getElem h]; rfl
theorem one_ii (j : Nat) : ∀ u ∈ [ii j], u.oneCell' = true := fun u hu => by simp at hu; subst hu; rfl
abbrev nNN : List Nat := [78, 78]
abbrev nNK : List Nat := [78, 75]
abbrev nXX : List Nat := [88, 88]
abbrev nIK : List Nat := [73, 75]
abbrev nXK : List Nat := [88, 75]
abbrev nKK : List Nat := [75, 75]
abbrev nXF : List Nat := [88, 88, 102, 97, 108, 108, 98, 97, 99, 107]
def ptext (n : List Nat) : List Nat :=
  if n = nNN then [59, 59, 32, 101, 59, 32, 101, 32, 101, 101, 59] else
  if n = nNK then [59, 32, 115, 59, 32, 101, 32, 101, 115, 59, 32, 101, 32, 101, 101, 59] else
  if n = nXX then [59, 59, 32, 101, 59, 32, 101, 32, 101, 101, 32, 115, 32, 101, 115, 59, 32, 115, 32, 115, 101, 59] else
  if n = nIK then [59, 32, 115, 59, 32, 101, 32, 101, 115, 32, 115, 32, 115, 115, 59, 32, 101, 32, 101, 101, 32, 115, 101, 59] else
  if n = nXK then [59, 32, 115, 59, 32, 101, 32, 101, 115, 59, 32, 101, 32, 101, 101, 59, 32, 115, 32, 115, 101, 59] else
  if n = nKK then [115, 59, 32, 115, 59, 32, 101, 32, 101, 115, 32, 115, 115, 59, 32, 101, 32, 101, 101, 32, 115, 101, 59] else
  if n = nXF then [101, 59, 59, 32, 101, 32, 101, 101, 32, 115, 32, 101, 115, 59, 32, 115, 32, 115, 101, 59] else []
end Go.Proofs.YtfldnikepdbgkaaDoor
namespace Go.Proofs.YtfldnikepdbgkaaDoor
open Go Go.RowKit
def trimS (l : List Nat) (c : Nat) : List Nat := if 1 ≤ l.length ∧ l.drop (l.length - 1) = [c] then l.take (l.length - 1) else l
def pbase (n : List Nat) : List (List Nat) := splitB (trimS (ptext n) 59) 59
theorem ptext_in {n : List Nat} (h : ptext n ≠ []) : n = nNN ∨ n = nNK ∨ n = nXX ∨ n = nIK ∨ n = nXK ∨ n = nKK ∨ n = nXF := by
  by_cases h0 : n = nNN
  · exact .inl h0
  by_cases h1 : n = nNK
  · exact .inr (.inl h1)
  by_cases h2 : n = nXX
  · exact .inr (.inr (.inl h2))
  by_cases h3 : n = nIK
  · exact .inr (.inr (.inr (.inl h3)))
  by_cases h4 : n = nXK
  · exact .inr (.inr (.inr (.inr (.inl h4))))
  by_cases h5 : n = nKK
  · exact .inr (.inr (.inr (.inr (.inr (.inl h5)))))
  by_cases h6 : n = nXF
  · exact .inr (.inr (.inr (.inr (.inr (.inr h6)))))
  · exact absurd (by rw [ptext, if_neg h0, if_neg h1, if_neg h2, if_neg h3, if_neg h4, if_neg h5, if_neg h6]) h
abbrev shortT (L : List (List Nat)) (k : Nat) : Prop := ∀ w ∈ L, (∀ b ∈ w, b < 128) ∧ w.length ≤ k
theorem pbase_ok {n : List Nat} (h : ptext n ≠ []) : 4 ≤ (pbase n).length ∧ (pbase n).length ≤ 5 ∧ shortT (pbase n) 30 ∧ (∀ b ∈ ptext n, b < 128) ∧ (ptext n).length ≤ 40 := by
  rcases ptext_in h with rfl | rfl | rfl | rfl | rfl | rfl | rfl <;> decide
def insT (L : List (List Nat)) (n : Int) : List (List Nat) := if n = 0 then L.set 2 ([112, 115, 107, 32] ++ L.getD 2 []) else L.set (1 + n.toNat) (L.getD (1 + n.toNat) [] ++ [32, 112, 115, 107])
theorem insT_len (L : List (List Nat)) (n : Int) : (insT L n).length = L.length := by unfold insT; split <;> simp
def pfold (L : List (List Nat)) (last : Int) : List Int → Nat × List (List Nat)
  | [] => (0, L)
  | n :: r => if n < 0 ∨ (L.length - 2 : Nat) < n then (6, []) else if n ≤ last then (3, []) else pfold (insT L n) n r
def pwith (n : List Nat) (ps : List Int) : Nat × List (List Nat) := if ptext n = [] then (5, []) else if 4 < ps.length then (1, []) else pfold (pbase n) (-1) ps
theorem drop_int {ps : List Int} {i : Nat} (h : i < ps.length) : ps.drop i = ps.getD i 0 :: ps.drop (i + 1) := by
  rw [List.drop_eq_getElem_cons h, List.getD_eq_getElem?_getD, List.getElem?_eq_getElem h]; rfl
theorem insT_zero {L : List (List Nat)} {n : Int} (h : n = 0) : insT L n = L.set 2 ([112, 115, 107, 32] ++ L.getD 2 []) := if_pos h
theorem insT_more {L : List (List Nat)} {n : Int} {k : Nat} (h : n ≠ 0) (hk : n = (k : Int)) : insT L n = L.set (1 + k) (L.getD (1 + k) [] ++ [32, 112, 115, 107]) := by
  unfold insT; rw [if_neg h, hk]; rfl
theorem or_true2 {p q : Prop} [Decidable p] [Decidable q] (h : (decide p || decide q) = true) : p ∨ q := by
  rw [Bool.or_eq_true, decide_eq_true_iff, decide_eq_true_iff] at h; exact h
theorem or_false2 {p q : Prop} [Decidable p] [Decidable q] (h : (decide p || decide q) = false) : ¬ (p ∨ q) := fun x => by
  rw [Bool.or_eq_false_iff, decide_eq_false_iff_not, decide_eq_false_iff_not] at h
  exact x.elim h.1 h.2
abbrev patC (base : List Nat) (late : Bool) (vp va vb vt : Value) : Array Value := cells 6 [pV (sv base), pV (.bool late), pV vp, pV va, pV vb, pV vt]
theorem shows_oneC {B : Mem} {z n : Nat} {v : Value} {xs : List Value} (h : Shows B z v n xs) : v.oneCell' = true := by
  rcases h with ⟨_, _, oa, c, rfl, _⟩ | ⟨b, o, c, cs, t, rfl, _⟩ <;> rfl
theorem fill2v {Z : Array Value} (hZ : Z.size = 2) {a b : Value} (ha : a.cells = #[a]) (hb : b.cells = #[b]) : Instr.fill (fun i => some (i * 1, 1)) Z [(0, a), (1, b)] = some #[a, b] := by
  obtain ⟨p, q, rfl⟩ : ∃ p q, Z = #[p, q] := by
    rcases Z with ⟨_ | ⟨p, _ | ⟨q, _ | ⟨r, l⟩⟩⟩⟩
    · simp at hZ
    · simp at hZ
    · exact ⟨p, q, rfl⟩
    · simp at hZ
  simp [Instr.fill, ha, hb]
theorem catOkP {base : List Nat} {late : Bool} {vp va vb vt : Value} (h1 : vp.oneCell' = true) (h2 : va.oneCell' = true) (h3 : vb.oneCell' = true) (h4 : vt.oneCell' = true) : ∀ v ∈ patC base late vp va vb vt, v.oneCell' = true := cells_one ⟨fun _ => rfl, fun _ => rfl, fun _ => h1, fun _ => h2, fun _ => h3, fun _ => h4, trivial⟩
def PatIs (base : List Nat) (late : Bool) (vp : Value) (q0 q1 : List Nat) (us : List (List Nat)) (w : Value) (B : Mem) : Prop :=
  ∃ va vb vt tvs, w = .agg (patC base late vp va vb vt) ∧ Shows B 1 va q0.length ((ci q0).map iv) ∧ Shows B 1 vb q1.length ((ci q1).map iv) ∧ Shows B 1 vt us.length tvs ∧ tvs.length = us.length ∧ ShowsLI B tvs (us.map ci)
theorem ci_ii (q : List Nat) : (ci q).map iv = q.map (fun x : Nat => ii x) := by unfold ci; rw [List.map_map]; rfl
end Go.Proofs.YtfldnikepdbgkaaDoor
namespace Go.Proofs.YtfldnikepdbgkaaDoor
open Go Go.RowKit
end Go.Proofs.YtfldnikepdbgkaaDoor
namespace Go.Proofs.YtfldnikepdbgkaaDoor
open Go Go.RowKit
theorem fresh_cat {m a b : Mem} (h1 : FreshM m a) (h2 : FreshM (m ++ a) b) : FreshM m (a ++ b) := by
  refine ⟨?_, fun x hx y hy => ?_⟩
  · rw [List.map_append, List.nodup_append]
    refine ⟨h1.1, h2.1, fun p hp q hq e => ?_⟩
    obtain ⟨x, hx, rfl⟩ := List.mem_map.1 hp
    obtain ⟨y, hy, rfl⟩ := List.mem_map.1 hq
    exact h2.2 y hy x (List.mem_append_right _ hx) e
  · rcases List.mem_append.1 hx with h | h
    · exact h1.2 x h y hy
    · exact h2.2 x h y (List.mem_append_left _ hy)
theorem fresh_nil (m : Mem) : FreshM m [] := ⟨by simp, fun x hx => by simp at hx⟩
theorem fresh_vals (m : Mem) (xs : List Value) : ∃ v nw, Shows nw 1 v xs.length xs ∧ FreshM m nw := by
  obtain ⟨r, hr⟩ := fresh_of m
  refine ⟨.slice (some ⟨r, 0, none⟩) xs.length xs.length, [⟨r, xs.toArray, 0⟩], .inr ⟨r, 0, xs.length, xs.toArray, 0, rfl, Nat.le_refl _, List.mem_singleton.2 rfl, by omega, by simp, fun j u hj => by simpa using hj⟩, by simp, fun x hx y hy => ?_⟩
  simp at hx; subst hx; exact hr y hy
theorem fresh_lists (m : Mem) : ∀ ls : List (List Int), ∃ vs nw, ShowsLI nw vs ls ∧ FreshM m nw
  | [] => ⟨[], [], ⟨rfl, fun i hi => absurd hi (Nat.not_lt_zero i)⟩, fresh_nil m⟩
  | l :: ls => by
    obtain ⟨vs, nw, h1, h2⟩ := fresh_lists m ls
    obtain ⟨v, nw', h3, h4⟩ := fresh_vals (m ++ nw) (l.map iv)
    rw [List.length_map] at h3
    refine ⟨v :: vs, nw ++ nw', ⟨by simp [h1.1], fun i hi => ?_⟩, fresh_cat h2 h4⟩
    cases i with
    | zero => exact h3.mono fun x hx => List.mem_append_right _ hx
    | succ i => exact (h1.2 i (by simpa using hi)).mono fun x hx => List.mem_append_left _ hx
theorem pat_fresh (base : List Nat) (late : Bool) (vp : Value) (q0 q1 : List Nat) (us : List (List Nat)) (m : Mem) : ∃ w nw, PatIs base late vp q0 q1 us w nw ∧ FreshM m nw := by
  obtain ⟨va, n0, h0, f0⟩ := fresh_vals m ((ci q0).map iv)
  obtain ⟨vb, n1, h1, f1⟩ := fresh_vals (m ++ n0) ((ci q1).map iv)
  obtain ⟨tvs, n2, h2, f2⟩ := fresh_lists (m ++ (n0 ++ n1)) (us.map ci)
  obtain ⟨vt, n3, h3, f3⟩ := fresh_vals (m ++ (n0 ++ n1 ++ n2)) tvs
  have hl : tvs.length = us.length := by rw [h2.1, List.length_map]
  have e0 : ((ci q0).map iv).length = q0.length := by simp [ci]
  have e1 : ((ci q1).map iv).length = q1.length := by simp [ci]
  rw [e0] at h0
  rw [e1] at h1
  rw [hl] at h3
  refine ⟨_, n0 ++ n1 ++ n2 ++ n3, ⟨va, vb, vt, tvs, rfl, h0.mono ?_, h1.mono ?_, h3.mono ?_, hl, li_mono h2 ?_⟩, fresh_cat (fresh_cat (fresh_cat f0 f1) f2) f3⟩
  · exact fun x hx => List.mem_append_left _ (List.mem_append_left _ (List.mem_append_left _ hx))
  · exact fun x hx => List.mem_append_left _ (List.mem_append_left _ (List.mem_append_right _ hx))
  · exact fun x hx => List.mem_append_right _ hx
  · exact fun x hx => List.mem_append_left _ (List.mem_append_right _ hx)
theorem pat_li {B : Mem} {vp va vb : Value} {ps : List Int} {q0 q1 : List Nat} {us : List (List Nat)} {tvs : List Value} (hp : Shows B 1 vp ps.length (ps.map iv)) (h0 : Shows B 1 va q0.length ((ci q0).map iv)) (h1 : Shows B 1 vb q1.length ((ci q1).map iv)) (h : ShowsLI B tvs (us.map ci)) : ShowsLI B (vp :: va :: vb :: tvs) (ps :: ci q0 :: ci q1 :: us.map ci) := by
  refine ⟨by simp [h.1], fun i hi => ?_⟩
  match i with
  | 0 => exact hp
  | 1 => rw [show q0.length = (ci q0).length by simp [ci]] at h0; exact h0
  | 2 => rw [show q1.length = (ci q1).length by simp [ci]] at h1; exact h1
  | i + 3 => exact h.2 i (by simpa using hi)
end Go.Proofs.YtfldnikepdbgkaaDoor
namespace Go.Proofs.YtfldnikepdbgkaaDoor
open Go Go.RowKit
abbrev hdN : List Nat := [78, 111, 105, 115, 101, 95]
abbrev tlN : List Nat := [95, 50, 53, 53, 49, 57, 95, 67, 104, 97, 67, 104, 97, 80, 111, 108, 121, 95, 66, 76, 65, 75, 69, 50, 115]
def pskD (z : Int) : Nat := (48 + (z % 256).toNat) % 256
def pmd (ps : List Int) : Nat → List Nat
  | 0 => []
  | i + 1 => pmd ps i ++ ((if 0 < i then [43] else []) ++ [112, 115, 107, pskD (ps.getD i 0)])
def pname (base : List Nat) (ps : List Int) : List Nat := hdN ++ base ++ pmd ps ps.length ++ tlN
theorem pwith_in {n : List Nat} {ps : List Int} (h : (pwith n ps).1 = 0) : ptext n ≠ [] ∧ ps.length ≤ 4 ∧ n.length ≤ 10 := by
  unfold pwith at h
  by_cases h0 : ptext n = []
  · rw [if_pos h0] at h; cases h
  · rw [if_neg h0] at h
    by_cases h1 : 4 < ps.length
    · rw [if_pos h1] at h; cases h
    · refine ⟨h0, by omega, ?_⟩
      rcases ptext_in h0 with rfl | rfl | rfl | rfl | rfl | rfl | rfl <;> decide
abbrev wq (n : List Nat) (ps : List Int) (i : Nat) : List Nat := toks ((pwith n ps).2.getD i [])
abbrev wt (n : List Nat) (ps : List Int) : List (List Nat) := ((pwith n ps).2.drop 2).map toks
end Go.Proofs.YtfldnikepdbgkaaDoor
namespace Go.Proofs.YtfldnikepdbgkaaDoor
open Go Go.RowKit
abbrev PSK : List Nat := [112, 115, 107]
def ixp : List Nat → Option Nat
  | [] => none
  | b :: l => if (b :: l).take 3 = PSK then some 0 else (ixp l).map (· + 1)
def hW (l : List Nat) (k : Nat) : Nat := (l.getD k 0 * 637696617 + l.getD (k + 1) 0 * 16777619 + l.getD (k + 2) 0) % 4294967296
end Go.Proofs.YtfldnikepdbgkaaDoor
namespace Go.Proofs.YtfldnikepdbgkaaDoor
open Go Go.RowKit
def bad1 (n : List Nat) : Bool := decide ((n.length : Int) < 6) || decide (n.take 6 ≠ hdN) || decide ((n.length : Int) < 31) || decide (n.drop (n.length - 25) ≠ tlN)
def midN (n : List Nat) : List Nat := (n.drop 6).take (n.length - 25 - 6)
def bad5 (l : List Nat) : Bool := decide ((l.length : Int) < 5) || decide (l.take 3 ≠ PSK) || decide ((l.getD 4 0 : Int) ≠ 43) || decide ((l.getD 3 0 : Int) < 48) || decide ((57 : Int) < (l.getD 3 0 : Int))
def modsF : Nat → List Nat → Option (List Nat)
  | 0, l => if l = [] then some [] else none
  | f + 1, l => if l = [] then some [] else if bad5 l = true then none else (modsF f (l.drop 5)).map ((l.getD 3 0 - 48) :: ·)
def mods (l : List Nat) : Option (List Nat) := modsF l.length l
def pparse (n : List Nat) : Nat × List Nat × List Nat :=
  if bad1 n = true then (3, [], []) else
  match ixp (midN n) with
  | none => (0, midN n, [])
  | some i =>
    match mods ((midN n).drop i ++ [43]) with
    | none => (3, [], [])
    | some ds => (0, (midN n).take i, ds)
def PatIs2 (base : List Nat) (late : Bool) (ps q0 q1 : List Nat) (us : List (List Nat)) (w : Value) (B : Mem) : Prop := ∃ vp, Shows B 1 vp ps.length ((ci ps).map iv) ∧ PatIs base late vp q0 q1 us w B
theorem pat_mono {base : List Nat} {late : Bool} {vp : Value} {q0 q1 : List Nat} {us : List (List Nat)} {w : Value} {B B' : Mem} (h : PatIs base late vp q0 q1 us w B) (hs : ∀ x ∈ B, x ∈ B') : PatIs base late vp q0 q1 us w B' := by
  obtain ⟨va, vb, vt, tvs, h1, h2, h3, h4, h5, h6⟩ := h
  exact ⟨va, vb, vt, tvs, h1, h2.mono hs, h3.mono hs, h4.mono hs, h5, li_mono h6 hs⟩
theorem pat_room2 (base : List Nat) (late : Bool) (ps q0 q1 : List Nat) (us : List (List Nat)) (m : Mem) : ∃ v nw, (∃ w', v = Value.tuple #[w', ii 0] ∧ PatIs2 base late ps q0 q1 us w' nw) ∧ FreshM m nw := by
  obtain ⟨vp, n0, h0, f0⟩ := fresh_vals m ((ci ps).map iv)
  obtain ⟨w, nw, h1, h2⟩ := pat_fresh base late vp q0 q1 us (m ++ n0)
  rw [show ((ci ps).map iv).length = ps.length by simp [ci]] at h0
  exact ⟨_, n0 ++ nw, ⟨w, rfl, vp, h0.mono fun x hx => List.mem_append_left _ hx, pat_mono h1 fun x hx => List.mem_append_right _ hx⟩, fresh_cat f0 h2⟩
end Go.Proofs.YtfldnikepdbgkaaDoor
namespace Go.Proofs.YtfldnikepdbgkaaDoor
open Go Go.RowKit
def plcU (m i : Nat) : List Nat := (List.range i).filter (fun n => decide (m / 2 ^ n % 2 = 1))
abbrev plc (t m : Nat) : List Nat := plcU m (t + 1)
theorem plcU_yes {m i : Nat} (h : m / 2 ^ i % 2 = 1) : plcU m (i + 1) = plcU m i ++ [i] := by
  unfold plcU
  rw [List.range_succ, List.filter_append, List.filter_cons, if_pos (decide_eq_true h)]; rfl
theorem plcU_no {m i : Nat} (h : ¬ m / 2 ^ i % 2 = 1) : plcU m (i + 1) = plcU m i := by
  unfold plcU
  rw [List.range_succ, List.filter_append, List.filter_cons, if_neg (by simpa using h)]; simp
theorem plcU_len (m i : Nat) : (plcU m i).length ≤ i := by
  unfold plcU
  exact Nat.le_trans (List.length_filter_le _ _) (by simp)
theorem plc_len (t m : Nat) : (plc t m).length ≤ t + 1 := plcU_len m (t + 1)
abbrev nm6 : List (List Nat) := [nNN, nNK, nXX, nIK, nXK, nKK]
def nmK (k : Nat) : List Nat := nm6.getD k []
def tnK (k : Nat) : Nat := (wt (nmK k) []).length
def psK (k m : Nat) : List Nat := plc (tnK k) m
theorem psK_len (k m : Nat) : (psK k m).length ≤ tnK k + 1 := plc_len _ _
theorem base_ok : ∀ k, k < 6 → (pwith (nmK k) []).1 = 0 ∧ 2 ≤ tnK k ∧ tnK k ≤ 3 ∧ ∀ b ∈ nmK k, b < 256 := by decide +kernel
theorem with_all : ∀ k, k < 6 → ∀ m, m < 16 → (pwith (nmK k) (ci (psK k m))).1 = 0 := by decide +kernel
theorem nm6_at {k : Nat} (h : k < 6) : ((nm6.map sv).toArray : Array Value)[k]? = some (sv (nmK k)) := by
  rw [List.getElem?_toArray]; exact texts_at h
section
variable {P : Program} {G : Mem} {R : Reg} {M : Mm}
theorem seen_sub {A : Mem} (h : ∀ x ∈ A, x ∈ G) : SeenE G R M A := fun z hz => .inl (h z hz)
end
theorem pat_room3 (base : List Nat) (late : Bool) (ps q0 q1 : List Nat) (us : List (List Nat)) (u : Value) (m : Mem) : ∃ v nw, (∃ w', v = Value.tuple #[w', u] ∧ PatIs2 base late ps q0 q1 us w' nw) ∧ FreshM m nw := by
  obtain ⟨v, nw, ⟨w, _, h⟩, hf⟩ := pat_room2 base late ps q0 q1 us m
  exact ⟨_, nw, ⟨w, rfl, h⟩, hf⟩
end Go.Proofs.YtfldnikepdbgkaaDoor
namespace Go.Proofs.YtfldnikepdbgkaaDoor
open Go Go.RowKit
def okK (k m : Nat) : Bool :=
  let n := nmK k
  let ps := psK k m
  decide (pparse (pname n (ci ps)) = (0, n, ps)) && decide (pfault (decide (n = nXF)) (ci (wq n (ci ps) 0)) (ci (wq n (ci ps) 1)) ((wt n (ci ps)).map ci) = 0) && decide (((wt n (ci ps)).map (fun q => q.count 7)).sum = ps.length) && decide ((pname n (ci ps)).length ≤ 100) && decide (∀ b ∈ pname n (ci ps), b < 256)
theorem okK_all : ∀ k, k < 6 → ∀ m, m < 16 → okK k m = true := by decide +kernel
theorem okK_open {k m : Nat} (hk : k < 6) (hm : m < 16) : pparse (pname (nmK k) (ci (psK k m))) = (0, nmK k, psK k m) ∧ pfault (decide (nmK k = nXF)) (ci (wq (nmK k) (ci (psK k m)) 0)) (ci (wq (nmK k) (ci (psK k m)) 1)) ((wt (nmK k) (ci (psK k m))).map ci) = 0 ∧ ((wt (nmK k) (ci (psK k m))).map (fun q => q.count 7)).sum = (psK k m).length ∧ (pname (nmK k) (ci (psK k m))).length ≤ 100 ∧ ∀ b ∈ pname (nmK k) (ci (psK k m)), b < 256 := by
  have h := okK_all k hk m hm
  simp only [okK, Bool.and_eq_true, decide_eq_true_eq] at h
  exact ⟨h.1.1.1.1, h.1.1.1.2, h.1.1.2, h.1.2, h.2⟩
end Go.Proofs.YtfldnikepdbgkaaDoor
namespace Go.Proofs.YtfldnikepdbgkaaDoor
open Go Go.RowKit
def pck (t : Nat) (last : Int) : List Int → Nat
  | [] => 0
  | n :: r => if n < 0 ∨ (t : Int) < n then 6 else if n ≤ last then 3 else pck t n r
theorem pfold_pck : ∀ (ps : List Int) (L : List (List Nat)) (last : Int), (pfold L last ps).1 = pck (L.length - 2) last ps
  | [], _, _ => rfl
  | n :: r, L, last => by
    rw [pfold, pck]
    by_cases h : n < 0 ∨ ((L.length - 2 : Nat) : Int) < n
    · rw [if_pos h, if_pos h]
    · rw [if_neg h, if_neg h]
      by_cases h2 : n ≤ last
      · rw [if_pos h2, if_pos h2]
      · rw [if_neg h2, if_neg h2, pfold_pck r (insT L n) n, insT_len]
def pchk (t : Nat) (ps : List Int) : Nat := if 4 < ps.length then 1 else pck t (-1) ps
theorem pwith_pchk {n : List Nat} {ps : List Int} (h : ptext n ≠ []) : (pwith n ps).1 = pchk ((pbase n).length - 2) ps := by
  rw [pwith, if_neg h, pchk]
  by_cases h4 : 4 < ps.length
  · rw [if_pos h4, if_pos h4]
  · rw [if_neg h4, if_neg h4, pfold_pck]
theorem pck_bound : ∀ {ps : List Int} {t : Nat} {last : Int}, pck t last ps = 0 → ∀ n ∈ ps, 0 ≤ n ∧ n ≤ (t : Int)
  | [], _, _, _, n, hn => by simp at hn
  | m :: r, t, last, h, n, hn => by
    rw [pck] at h
    by_cases h1 : m < 0 ∨ (t : Int) < m
    · rw [if_pos h1] at h; cases h
    · rw [if_neg h1] at h
      by_cases h2 : m ≤ last
      · rw [if_pos h2] at h; cases h
      · rw [if_neg h2] at h
        rcases List.mem_cons.1 hn with rfl | hn
        · omega
        · exact pck_bound h n hn
theorem pchk_bound {ps : List Int} {t : Nat} (h : pchk t ps = 0) : ps.length ≤ 4 ∧ ∀ i, i < ps.length → 0 ≤ ps.getD i 0 ∧ ps.getD i 0 ≤ (t : Int) := by
  rw [pchk] at h
  by_cases h4 : 4 < ps.length
  · rw [if_pos h4] at h; cases h
  · rw [if_neg h4] at h
    refine ⟨by omega, fun i hi => pck_bound h _ ?_⟩
    rw [List.getD_eq_getElem?_getD, List.getElem?_eq_getElem hi]; exact List.getElem_mem hi
theorem pck_range {t : Nat} {last : Int} {ps : List Int} {i : Nat} (h : i < ps.length) (hx : ps.getD i 0 < 0 ∨ (t : Int) < ps.getD i 0) : pck t last (ps.drop i) = 6 := by
  rw [drop_int h, pck, if_pos hx]
theorem pck_form {t : Nat} {last : Int} {ps : List Int} {i : Nat} (h : i < ps.length) (hx : ¬ (ps.getD i 0 < 0 ∨ (t : Int) < ps.getD i 0)) (hl : ps.getD i 0 ≤ last) : pck t last (ps.drop i) = 3 := by
  rw [drop_int h, pck, if_neg hx, if_pos hl]
theorem pck_step {t : Nat} {last : Int} {ps : List Int} {i : Nat} (h : i < ps.length) (hx : ¬ (ps.getD i 0 < 0 ∨ (t : Int) < ps.getD i 0)) (hl : ¬ ps.getD i 0 ≤ last) : pck t last (ps.drop i) = pck t (ps.getD i 0) (ps.drop (i + 1)) := by
  rw [drop_int h, pck, if_neg hx, if_neg hl]
theorem pck_end {t : Nat} {last : Int} {ps : List Int} {i : Nat} (h : i = ps.length) : pck t last (ps.drop i) = 0 := by
  rw [h, List.drop_length, pck]
def lastP (ps : List Int) (i : Nat) : Int := if i = 0 then -1 else ps.getD (i - 1) 0
theorem last_yes {ps : List Int} {i : Nat} (h : (decide ((0 : Int) < (i : Int)) && decide (ps.getD i 0 ≤ ps.getD (i - 1) 0)) = true) : ps.getD i 0 ≤ lastP ps i := by
  rw [Bool.and_eq_true, decide_eq_true_eq, decide_eq_true_eq] at h
  rw [lastP, if_neg (by omega)]; exact h.2
theorem last_no {ps : List Int} {i t : Nat} (hx : ¬ (ps.getD i 0 < 0 ∨ (t : Int) < ps.getD i 0)) (h : (decide ((0 : Int) < (i : Int)) && decide (ps.getD i 0 ≤ ps.getD (i - 1) 0)) = false) : ¬ ps.getD i 0 ≤ lastP ps i := by
  by_cases e : i = 0
  · rw [lastP, if_pos e]; omega
  · rw [lastP, if_neg e]
    rw [decide_eq_true (by omega), Bool.true_and, decide_eq_false_iff_not] at h
    exact h
def insU (us : List (List Nat)) (n : Int) : List (List Nat) := if n = 0 then us.set 0 (7 :: us.getD 0 []) else us.set (n.toNat - 1) (us.getD (n.toNat - 1) [] ++ [7])
theorem insU_len (us : List (List Nat)) (n : Int) : (insU us n).length = us.length := by unfold insU; split <;> simp
theorem insU_zero {us : List (List Nat)} {n : Int} (h : n = 0) : insU us n = us.set 0 (7 :: us.getD 0 []) := if_pos h
theorem insU_more {us : List (List Nat)} {n : Int} {k : Nat} (h : n ≠ 0) (hk : n = (k : Int)) : insU us n = us.set (k - 1) (us.getD (k - 1) [] ++ [7]) := by
  subst hk; rw [insU, if_neg h]; rfl
theorem psk_word : ∀ b ∈ ([112, 115, 107] : List Nat), asp b = 0 := by decide
theorem toks_head (w : List Nat) : toks ([112, 115, 107, 32] ++ w) = 7 :: toks w := by
  have h : fldGo [] ([112, 115, 107] ++ (32 :: w)) = [112, 115, 107] :: fldGo [] w := by
    rw [fld_app [112, 115, 107] [] (32 :: w) psk_word]
    simp [fldGo, asp]
  unfold toks fieldsL
  rw [show ([112, 115, 107, 32] ++ w : List Nat) = [112, 115, 107] ++ (32 :: w) from rfl, h, List.flatMap_cons]
  rfl
theorem fld_tail : ∀ (w cur : List Nat), fldGo cur (w ++ [32, 112, 115, 107]) = fldGo cur w ++ [[112, 115, 107]]
  | [], cur => by
    by_cases h : cur = [] <;> simp [fldGo, asp, h]
  | b :: w, cur => by
    rw [List.cons_append, fldGo, fldGo]
    by_cases h : asp b = 0
    · rw [if_pos h, if_pos h]
      exact fld_tail w (cur ++ [b])
    · rw [if_neg h, if_neg h, fld_tail w []]
      split <;> rfl
theorem toks_tail (w : List Nat) : toks (w ++ [32, 112, 115, 107]) = toks w ++ [7] := by
  unfold toks fieldsL
  rw [fld_tail, List.flatMap_append]
  rfl
theorem map_drop_set {L : List (List Nat)} {j : Nat} {w : List Nat} (f : List Nat → List Nat) (h : 2 ≤ j) : ((L.set j w).drop 2).map f = ((L.drop 2).map f).set (j - 2) (f w) := by
  rw [List.drop_set, if_neg (by omega), List.map_set]
theorem drop2_at {L : List (List Nat)} {j : Nat} (f : List Nat → List Nat) (h : j + 2 < L.length) : ((L.drop 2).map f).getD j [] = f (L.getD (j + 2) []) := by
  have h2 : j < (L.drop 2).length := by rw [List.length_drop]; omega
  rw [List.getD_eq_getElem?_getD, List.getElem?_map, List.getElem?_drop, Nat.add_comm 2 j, List.getD_eq_getElem?_getD, List.getElem?_eq_getElem h]
  rfl
theorem insT_insU {L : List (List Nat)} {n : Int} (h3 : 3 ≤ L.length) (h0 : 0 ≤ n) (hn : n ≤ ((L.length - 2 : Nat) : Int)) :
    ((insT L n).drop 2).map toks = insU ((L.drop 2).map toks) n ∧ (insT L n).getD 0 [] = L.getD 0 [] ∧ (insT L n).getD 1 [] = L.getD 1 [] := by
  have other : ∀ {j k : Nat} {w : List Nat}, j ≠ k → (L.set j w).getD k [] = L.getD k [] := fun {j k w} hj => by
    rw [List.getD_eq_getElem?_getD, List.getElem?_set_ne hj, ← List.getD_eq_getElem?_getD]
  by_cases e : n = 0
  · rw [insT_zero e, insU_zero e]
    refine ⟨?_, other (by omega), other (by omega)⟩
    rw [map_drop_set toks (Nat.le_refl 2), toks_head, drop2_at toks (by omega)]
  · obtain ⟨k, rfl⟩ : ∃ k : Nat, n = (k : Int) := ⟨n.toNat, by omega⟩
    rw [insT_more e rfl, insU_more e rfl]
    refine ⟨?_, other (by omega), other (by omega)⟩
    rw [map_drop_set toks (by omega), toks_tail, show 1 + k - 2 = k - 1 by omega, drop2_at toks (by omega), show k - 1 + 2 = 1 + k by omega]
theorem pfold_rows : ∀ (ps : List Int) (L : List (List Nat)) (last : Int), 3 ≤ L.length → (pfold L last ps).1 = 0 →
    ((pfold L last ps).2.drop 2).map toks = ps.foldl insU ((L.drop 2).map toks) ∧ (pfold L last ps).2.getD 0 [] = L.getD 0 [] ∧ (pfold L last ps).2.getD 1 [] = L.getD 1 []
  | [], L, _, _, _ => ⟨rfl, rfl, rfl⟩
  | n :: r, L, last, h3, h => by
    rw [pfold] at h ⊢
    by_cases h1 : n < 0 ∨ ((L.length - 2 : Nat) : Int) < n
    · rw [if_pos h1] at h; cases h
    · rw [if_neg h1] at h ⊢
      by_cases h2 : n ≤ last
      · rw [if_pos h2] at h; cases h
      · rw [if_neg h2] at h ⊢
        obtain ⟨a1, a2, a3⟩ := insT_insU (L := L) (n := n) h3 (by omega) (by omega)
        obtain ⟨b1, b2, b3⟩ := pfold_rows r (insT L n) n (by rw [insT_len]; exact h3) h
        rw [List.foldl_cons, b1, b2, b3, a1, a2, a3]
        exact ⟨rfl, rfl, rfl⟩
def bU (n : List Nat) : List (List Nat) := ((pbase n).drop 2).map toks
def bQ (n : List Nat) (i : Nat) : List Nat := toks ((pbase n).getD i [])
theorem with_rows {n : List Nat} {ps : List Int} (h : (pwith n ps).1 = 0) : wt n ps = ps.foldl insU (bU n) ∧ wq n ps 0 = bQ n 0 ∧ wq n ps 1 = bQ n 1 := by
  obtain ⟨h0, h4, _⟩ := pwith_in h
  obtain ⟨hb1, _⟩ := pbase_ok h0
  have e : pwith n ps = pfold (pbase n) (-1) ps := by rw [pwith, if_neg h0, if_neg (by omega)]
  rw [e] at h
  obtain ⟨a1, a2, a3⟩ := pfold_rows ps (pbase n) (-1) (by omega) h
  refine ⟨by unfold wt bU; rw [e]; exact a1, by unfold wq bQ; rw [e, a2], by unfold wq bQ; rw [e, a3]⟩
theorem bU_len {n : List Nat} (h : ptext n ≠ []) : (bU n).length = (pbase n).length - 2 ∧ 2 ≤ (bU n).length ∧ (bU n).length ≤ 3 ∧ ∀ q ∈ bU n, q.length ≤ 4 := by
  rcases ptext_in h with rfl | rfl | rfl | rfl | rfl | rfl | rfl <;> decide +kernel
theorem foldU_len (ps : List Int) : ∀ us : List (List Nat), (ps.foldl insU us).length = us.length := by
  induction ps with
  | nil => intro us; rfl
  | cons n r ih => intro us; rw [List.foldl_cons, ih, insU_len]
theorem fold_step {us : List (List Nat)} {ps : List Int} {i : Nat} (h : i < ps.length) : (ps.take (i + 1)).foldl insU us = insU ((ps.take i).foldl insU us) (ps.getD i 0) := by
  rw [List.take_add_one, List.getElem?_eq_getElem h, List.foldl_append, List.getD_eq_getElem?_getD, List.getElem?_eq_getElem h]; rfl
theorem insU_row {us : List (List Nat)} {n : Int} {k : Nat} (h : ∀ q ∈ us, q.length ≤ k) : ∀ q ∈ insU us n, q.length ≤ k + 1 := by
  have at_ : ∀ j, (us.getD j []).length ≤ k := fun j => by
    by_cases hj : j < us.length
    · rw [List.getD_eq_getElem?_getD, List.getElem?_eq_getElem hj]; exact h _ (List.getElem_mem hj)
    · rw [List.getD_eq_getElem?_getD, List.getElem?_eq_none (by omega)]; exact Nat.zero_le _
  intro q hq
  unfold insU at hq
  split at hq
  · rcases List.mem_or_eq_of_mem_set hq with h1 | rfl
    · have := h q h1; omega
    · have := at_ 0; simp only [List.length_cons]; omega
  · rcases List.mem_or_eq_of_mem_set hq with h1 | rfl
    · have := h q h1; omega
    · have := at_ (n.toNat - 1); simp only [List.length_append, List.length_cons, List.length_nil]; omega
end Go.Proofs.YtfldnikepdbgkaaDoor
namespace Go.Proofs.YtfldnikepdbgkaaDoor
open Go Go.RowKit
end Go.Proofs.YtfldnikepdbgkaaDoor
namespace Go.Proofs.YtfldnikepdbgkaaDoor
open Go Go.RowKit
abbrev iis (q : List Nat) : List Value := q.map fun x : Nat => ii x
theorem iis_one (q : List Nat) : ∀ u ∈ iis q, u.oneCell' = true := fun u hu => by
  obtain ⟨n, _, rfl⟩ := List.mem_map.1 hu; rfl
abbrev slv (r n : Nat) : Value := .slice (some ⟨r, 0, none⟩) n n
theorem own_lit (ti : TypeId) (r : Nat) (q : List Nat) (h : q.length ≤ 100) : OwnS ti 1 (slv r q.length) q.length (iis q) (some (⟨r, (iis q).toArray, ti⟩ : Blk)).toList :=
  .inr ⟨r, q.length, (iis q).toArray, rfl, rfl, Nat.le_refl _, by simp only [maxLen]; omega, by simp, by simp, by rw [Nat.mul_one]; exact List.take_of_length_le (by simp)⟩
def ox (o0 o1 o2 : Option Blk) (i : Nat) : Option Blk := if i = 0 then o0 else if i = 1 then o1 else if i = 2 then o2 else none
def RowsIs (ti : TypeId) (TF : Nat → Value) (us : List (List Nat)) (o0 o1 o2 : Option Blk) : Prop := ∀ i, i < us.length → OwnS ti 1 (TF i) (us.getD i []).length (iis (us.getD i [])) (ox o0 o1 o2 i).toList
def BaseIs (ti tr : TypeId) (l : List Nat) (late : Bool) (q0 q1 : List Nat) (us : List (List Nat)) (v : Value) (os : List (Option Blk)) : Prop :=
  ∃ va vb TF oa ob o0 o1 o2 rT, v = .agg (patC l late nilS va vb (slv rT us.length)) ∧ os = [oa, ob, o0, o1, o2, some ⟨rT, arrv us.length TF, tr⟩] ∧ OwnS ti 1 va q0.length (iis q0) oa.toList ∧ OwnS ti 1 vb q1.length (iis q1) ob.toList ∧ RowsIs ti TF us o0 o1 o2
theorem base_two {ti tr : TypeId} {l : List Nat} {late : Bool} {q0 q1 : List Nat} {va vb : Value} {oa ob : Option Blk} {r0 r1 rT : Nat} (a b : List Nat) (hA : OwnS ti 1 va q0.length (iis q0) oa.toList) (hB : OwnS ti 1 vb q1.length (iis q1) ob.toList) (ha : a.length ≤ 100) (hb : b.length ≤ 100) :
    BaseIs ti tr l late q0 q1 [a, b] (.agg (patC l late nilS va vb (slv rT 2))) [oa, ob, some ⟨r0, (iis a).toArray, ti⟩, some ⟨r1, (iis b).toArray, ti⟩, none, some ⟨rT, #[slv r0 a.length, slv r1 b.length], tr⟩] :=
  ⟨va, vb, fun i => if i = 0 then slv r0 a.length else slv r1 b.length, oa, ob, _, _, none, rT, rfl, rfl, hA, hB, fun i hi => by
    match i, hi with
    | 0, _ => exact own_lit ti r0 a ha
    | 1, _ => exact own_lit ti r1 b hb
    | i + 2, hi => exact absurd hi (by simp)⟩
theorem base_three {ti tr : TypeId} {l : List Nat} {late : Bool} {q0 q1 : List Nat} {va vb : Value} {oa ob : Option Blk} {r0 r1 r2 rT : Nat} (a b c : List Nat) (hA : OwnS ti 1 va q0.length (iis q0) oa.toList) (hB : OwnS ti 1 vb q1.length (iis q1) ob.toList) (ha : a.length ≤ 100) (hb : b.length ≤ 100) (hc : c.length ≤ 100) :
    BaseIs ti tr l late q0 q1 [a, b, c] (.agg (patC l late nilS va vb (slv rT 3))) [oa, ob, some ⟨r0, (iis a).toArray, ti⟩, some ⟨r1, (iis b).toArray, ti⟩, some ⟨r2, (iis c).toArray, ti⟩, some ⟨rT, #[slv r0 a.length, slv r1 b.length, slv r2 c.length], tr⟩] :=
  ⟨va, vb, fun i => if i = 0 then slv r0 a.length else if i = 1 then slv r1 b.length else slv r2 c.length, oa, ob, _, _, _, rT, rfl, rfl, hA, hB, fun i hi => by
    match i, hi with
    | 0, _ => exact own_lit ti r0 a ha
    | 1, _ => exact own_lit ti r1 b hb
    | 2, _ => exact own_lit ti r2 c hc
    | i + 3, hi => exact absurd hi (by simp)⟩
theorem tab_NN : bQ nNN 0 = [] ∧ bQ nNN 1 = [] ∧ bU nNN = [[1], [1, 3]] := by decide +kernel
theorem tab_NK : bQ nNK 0 = [] ∧ bQ nNK 1 = [2] ∧ bU nNK = [[1, 4], [1, 3]] := by decide +kernel
theorem tab_XX : bQ nXX 0 = [] ∧ bQ nXX 1 = [] ∧ bU nXX = [[1], [1, 3, 2, 4], [2, 5]] := by decide +kernel
theorem tab_IK : bQ nIK 0 = [] ∧ bQ nIK 1 = [2] ∧ bU nIK = [[1, 4, 2, 6], [1, 3, 5]] := by decide +kernel
theorem tab_XK : bQ nXK 0 = [] ∧ bQ nXK 1 = [2] ∧ bU nXK = [[1, 4], [1, 3], [2, 5]] := by decide +kernel
theorem tab_KK : bQ nKK 0 = [2] ∧ bQ nKK 1 = [2] ∧ bU nKK = [[1, 4, 6], [1, 3, 5]] := by decide +kernel
theorem tab_XF : bQ nXF 0 = [1] ∧ bQ nXF 1 = [] ∧ bU nXF = [[1, 3, 2, 4], [2, 5]] := by decide +kernel
theorem ptext_no {n : List Nat} (h0 : n ≠ nNN) (h1 : n ≠ nNK) (h2 : n ≠ nXX) (h3 : n ≠ nIK) (h4 : n ≠ nXK) (h5 : n ≠ nKK) (h6 : n ≠ nXF) : ptext n = [] := by
  cases h : ptext n with
  | nil => rfl
  | cons a b =>
    rcases ptext_in (n := n) (by rw [h]; simp) with e | e | e | e | e | e | e
    · exact absurd e h0
    · exact absurd e h1
    · exact absurd e h2
    · exact absurd e h3
    · exact absurd e h4
    · exact absurd e h5
    · exact absurd e h6
theorem bQ_len {n : List Nat} (h : ptext n ≠ []) : (bQ n 0).length ≤ 1 ∧ (bQ n 1).length ≤ 1 := by
  rcases ptext_in h with rfl | rfl | rfl | rfl | rfl | rfl | rfl
  · rw [tab_NN.1, tab_NN.2.1]; decide
  · rw [tab_NK.1, tab_NK.2.1]; decide
  · rw [tab_XX.1, tab_XX.2.1]; decide
  · rw [tab_IK.1, tab_IK.2.1]; decide
  · rw [tab_XK.1, tab_XK.2.1]; decide
  · rw [tab_KK.1, tab_KK.2.1]; decide
  · rw [tab_XF.1, tab_XF.2.1]; decide
theorem own_fresh (m : Mem) (ti : TypeId) (q : List Nat) (h : q.length ≤ 1000) : ∃ v oz, OwnS ti 1 v q.length (iis q) (Option.toList oz) ∧ FreshM m (Option.toList oz) := by
  obtain ⟨r, hr⟩ := fresh_of m
  refine ⟨slv r q.length, some ⟨r, (iis q).toArray, ti⟩, .inr ⟨r, q.length, (iis q).toArray, rfl, rfl, Nat.le_refl _, by simp only [maxLen]; omega, by simp, by simp, by rw [Nat.mul_one]; exact List.take_of_length_le (by simp)⟩, by simp, fun x hx y hy => ?_⟩
  simp at hx; subst hx; exact hr y hy
theorem owns_fresh (ti : TypeId) : ∀ (qs : List (List Nat)) (m : Mem), (∀ q ∈ qs, q.length ≤ 1000) → ∃ (vs : List Value) (os : List (Option Blk)), vs.length = qs.length ∧ os.length = qs.length ∧ (∀ i, i < qs.length → OwnS ti 1 (vs.getD i undef) (qs.getD i []).length (iis (qs.getD i [])) (os.getD i none).toList) ∧ FreshM m (flatO os)
  | [], m, _ => ⟨[], [], rfl, rfl, fun i hi => absurd hi (by simp), fresh_nil m⟩
  | q :: qs, m, h => by
    obtain ⟨v, oz, h1, h2⟩ := own_fresh m ti q (h q List.mem_cons_self)
    obtain ⟨vs, os, h3, h4, h5, h6⟩ := owns_fresh ti qs (m ++ oz.toList) (fun x hx => h x (List.mem_cons_of_mem _ hx))
    refine ⟨v :: vs, oz :: os, by simp [h3], by simp [h4], fun i hi => ?_, by rw [flatO]; exact fresh_cat h2 h6⟩
    match i with
    | 0 => exact h1
    | i + 1 => exact h5 i (by simpa using hi)
theorem base_room (ti tr : TypeId) (l : List Nat) (late : Bool) (q0 q1 : List Nat) (us : List (List Nat)) (u : Value) (h0 : q0.length ≤ 100) (h1 : q1.length ≤ 100) (hu : ∀ q ∈ us, q.length ≤ 100) (hl : us.length = 2 ∨ us.length = 3) (m : Mem) : ∃ v os, (∃ v', v = Value.tuple #[v', u] ∧ BaseIs ti tr l late q0 q1 us v' os) ∧ FreshM m (flatO os) := by
  obtain ⟨vs, os, g1, g2, g3, g4⟩ := owns_fresh ti (q0 :: q1 :: us) m (fun q hq => by
    rcases List.mem_cons.1 hq with rfl | hq
    · omega
    rcases List.mem_cons.1 hq with rfl | hq
    · omega
    · have := hu q hq; omega)
  obtain ⟨rT, hrT⟩ := fresh_of (m ++ flatO os)
  have fT : ∀ c : Array Value, FreshM (m ++ flatO os) [(⟨rT, c, tr⟩ : Blk)] := fun c => ⟨by simp, fun x hx y hy => by simp at hx; subst hx; exact hrT y hy⟩
  have hA := g3 0 (by simp)
  have hB := g3 1 (by simp)
  rcases hl with hl | hl
  · match us, hl, os, g2 with
    | [a, b], _, [oa, ob, o0, o1], _ =>
      refine ⟨_, [oa, ob, o0, o1, none, some ⟨rT, arrv 2 (fun i => vs.getD (i + 2) undef), tr⟩], ⟨_, rfl, vs.getD 0 undef, vs.getD 1 undef, fun i => vs.getD (i + 2) undef, oa, ob, o0, o1, none, rT, rfl, rfl, hA, hB, fun i hi => ?_⟩, ?_⟩
      · match i, hi with
        | 0, _ => exact g3 2 (by simp)
        | 1, _ => exact g3 3 (by simp)
        | i + 2, hi => exact absurd hi (by simp)
      · have e : flatO [oa, ob, o0, o1, none, some (⟨rT, arrv 2 (fun i => vs.getD (i + 2) undef), tr⟩ : Blk)] = flatO [oa, ob, o0, o1] ++ [(⟨rT, arrv 2 (fun i => vs.getD (i + 2) undef), tr⟩ : Blk)] := by simp [flatO]
        rw [e]; exact fresh_cat g4 (fT _)
  · match us, hl, os, g2 with
    | [a, b, c], _, [oa, ob, o0, o1, o2], _ =>
      refine ⟨_, [oa, ob, o0, o1, o2, some ⟨rT, arrv 3 (fun i => vs.getD (i + 2) undef), tr⟩], ⟨_, rfl, vs.getD 0 undef, vs.getD 1 undef, fun i => vs.getD (i + 2) undef, oa, ob, o0, o1, o2, rT, rfl, rfl, hA, hB, fun i hi => ?_⟩, ?_⟩
      · match i, hi with
        | 0, _ => exact g3 2 (by simp)
        | 1, _ => exact g3 3 (by simp)
        | 2, _ => exact g3 4 (by simp)
        | i + 3, hi => exact absurd hi (by simp)
      · have e : flatO [oa, ob, o0, o1, o2, some (⟨rT, arrv 3 (fun i => vs.getD (i + 2) undef), tr⟩ : Blk)] = flatO [oa, ob, o0, o1, o2] ++ [(⟨rT, arrv 3 (fun i => vs.getD (i + 2) undef), tr⟩ : Blk)] := by simp [flatO]
        rw [e]; exact fresh_cat g4 (fT _)
def insR (n : Nat) (q : List Nat) : List Nat := if n = 0 then 7 :: q else q ++ [7]
theorem insR_len (n : Nat) (q : List Nat) : (insR n q).length = q.length + 1 := by unfold insR; split <;> simp
theorem insU_insR {us : List (List Nat)} {n : Nat} : insU us (n : Int) = us.set (n - 1) (insR n (us.getD (n - 1) [])) := by
  by_cases h : n = 0
  · subst h; exact insU_zero (n := ((0 : Nat) : Int)) rfl
  · rw [insU_more (k := n) (by omega) rfl, insR, if_neg h]
theorem rows_at {us : List (List Nat)} {j i : Nat} {w : List Nat} (hi : i < us.length) : (us.set j w).getD i [] = if i = j then w else us.getD i [] := by
  rw [List.getD_eq_getElem?_getD, List.getElem?_set]
  by_cases e : j = i
  · subst e; rw [if_pos rfl, if_pos hi, if_pos rfl]; rfl
  · rw [if_neg e, if_neg (fun x => e x.symm), ← List.getD_eq_getElem?_getD]
theorem rows_set {ti : TypeId} {TF : Nat → Value} {us : List (List Nat)} {o0 o1 o2 oz : Option Blk} {j : Nat} {w : Value} {q : List Nat} (h : RowsIs ti TF us o0 o1 o2) (hj : j < 3) (ho : OwnS ti 1 w q.length (iis q) oz.toList) : RowsIs ti (updv TF j w) (us.set j q) (if j = 0 then oz else o0) (if j = 1 then oz else o1) (if j = 2 then oz else o2) := fun i hi => by
  rw [List.length_set] at hi
  rw [rows_at hi]
  by_cases e : i = j
  · subst e
    rw [if_pos rfl, updv, if_pos rfl]
    have : ox (if i = 0 then oz else o0) (if i = 1 then oz else o1) (if i = 2 then oz else o2) i = oz := by
      unfold ox
      match i, hj with
      | 0, _ => rfl
      | 1, _ => rfl
      | 2, _ => rfl
    rw [this]; exact ho
  · rw [if_neg e, updv, if_neg e]
    have e2 : ox (if j = 0 then oz else o0) (if j = 1 then oz else o1) (if j = 2 then oz else o2) i = ox o0 o1 o2 i := by
      unfold ox
      by_cases i0 : i = 0
      · rw [if_pos i0, if_pos i0, if_neg (by omega)]
      · rw [if_neg i0, if_neg i0]
        by_cases i1 : i = 1
        · rw [if_pos i1, if_pos i1, if_neg (by omega)]
        · rw [if_neg i1, if_neg i1]
          by_cases i2 : i = 2
          · rw [if_pos i2, if_pos i2, if_neg (by omega)]
          · rw [if_neg i2, if_neg i2]
    rw [e2]; exact h i hi
theorem rowN_le {us : List (List Nat)} {k : Nat} (h : ∀ q ∈ us, q.length ≤ k) (j : Nat) : (us.getD j []).length ≤ k := by
  by_cases hj : j < us.length
  · rw [List.getD_eq_getElem?_getD, List.getElem?_eq_getElem hj]; exact h _ (List.getElem_mem hj)
  · rw [List.getD_eq_getElem?_getD, List.getElem?_eq_none (by omega)]; exact Nat.zero_le _
def PatIsI (base : List Nat) (late : Bool) (ps : List Int) (q0 q1 : List Nat) (us : List (List Nat)) (w : Value) (B : Mem) : Prop := ∃ vp, Shows B 1 vp ps.length (ps.map iv) ∧ PatIs base late vp q0 q1 us w B
theorem pat_roomI (base : List Nat) (late : Bool) (ps : List Int) (q0 q1 : List Nat) (us : List (List Nat)) (m : Mem) : ∃ v nw, (∃ w', v = Value.tuple #[w', ii 0] ∧ PatIsI base late ps q0 q1 us w' nw) ∧ FreshM m nw := by
  obtain ⟨vp, n0, h0, f0⟩ := fresh_vals m (ps.map iv)
  rw [List.length_map] at h0
  obtain ⟨w, n1, h1, f1⟩ := pat_fresh base late vp q0 q1 us (m ++ n0)
  exact ⟨_, n0 ++ n1, ⟨w, rfl, vp, h0.mono fun x hx => List.mem_append_left _ hx, pat_mono h1 fun x hx => List.mem_append_right _ hx⟩, fresh_cat f0 f1⟩
theorem pat_two {base : List Nat} {late : Bool} {ds q0 q1 : List Nat} {us : List (List Nat)} {w : Value} {B : Mem} (h : PatIsI base late (ci ds) q0 q1 us w B) : PatIs2 base late ds q0 q1 us w B := by
  obtain ⟨vp, h1, h2⟩ := h
  exact ⟨vp, by rw [List.length_map] at h1; exact h1, h2⟩
theorem patI_mono {base : List Nat} {late : Bool} {ps : List Int} {q0 q1 : List Nat} {us : List (List Nat)} {w : Value} {B B' : Mem} (h : PatIsI base late ps q0 q1 us w B) (hs : ∀ x ∈ B, x ∈ B') : PatIsI base late ps q0 q1 us w B' := by
  obtain ⟨vp, h1, h2⟩ := h
  exact ⟨vp, h1.mono hs, pat_mono h2 hs⟩
theorem rows_shows {ti : TypeId} {TF : Nat → Value} {us : List (List Nat)} {o0 o1 o2 : Option Blk} {B : Mem} (h : RowsIs ti TF us o0 o1 o2) (hB : ∀ i, ∀ x ∈ (ox o0 o1 o2 i).toList, x ∈ B) : ShowsLI B ((List.range us.length).map TF) (us.map ci) := by
  refine ⟨by simp, fun i hi => ?_⟩
  have hi : i < us.length := by simpa using hi
  have h1 := (h i hi).shows.mono (hB i)
  have e1 : ((List.range us.length).map TF).getD i undef = TF i := by simp [List.getD_eq_getElem?_getD, hi]
  have e2 : (us.map ci).getD i [] = ci (us.getD i []) := by simp [List.getD_eq_getElem?_getD, hi]
  rw [e1, e2, ci_ii, show (ci (us.getD i [])).length = (us.getD i []).length by simp [ci]]
  exact h1
theorem tblk_shows {rT n : Nat} {TF : Nat → Value} {tr : TypeId} {B : Mem} (h : (⟨rT, arrv n TF, tr⟩ : Blk) ∈ B) : Shows B 1 (slv rT n) n ((List.range n).map TF) := by
  have := (shows_new (r := rT) (z := 1) (len := n) (arrv n TF) tr (by rw [arrv_size, Nat.mul_one])).mono (B' := B) fun x hx => by simp at hx; subst hx; exact h
  exact this
theorem with_pat {ti tr : TypeId} {l : List Nat} {late : Bool} {ps : List Int} {q0 q1 : List Nat} {us : List (List Nat)} {vp va vb : Value} {op oa ob o0 o1 o2 : Option Blk} {TF : Nat → Value} {rT n : Nat} {e : TypeId} {B : Mem} (hp : OwnS e 1 vp ps.length (ps.map iv) op.toList) (hA : OwnS ti 1 va q0.length (iis q0) oa.toList) (hB : OwnS ti 1 vb q1.length (iis q1) ob.toList) (hR : RowsIs ti TF us o0 o1 o2) (hn : us.length = n)
    (hs : ∀ o ∈ [op, oa, ob, o0, o1, o2], ∀ x ∈ o.toList, x ∈ B) (hT : (⟨rT, arrv n TF, tr⟩ : Blk) ∈ B) : PatIsI l late ps q0 q1 us (.agg (patC l late vp va vb (slv rT n))) B := by
  subst hn
  refine ⟨vp, hp.shows.mono (hs op (by simp)), va, vb, slv rT us.length, (List.range us.length).map TF, rfl, by rw [ci_ii]; exact hA.shows.mono (hs oa (by simp)), by rw [ci_ii]; exact hB.shows.mono (hs ob (by simp)), tblk_shows hT, by simp, rows_shows hR fun i x hx => ?_⟩
  unfold ox at hx
  split at hx
  · exact hs o0 (by simp) x hx
  split at hx
  · exact hs o1 (by simp) x hx
  split at hx
  · exact hs o2 (by simp) x hx
  · simp at hx
end Go.Proofs.YtfldnikepdbgkaaDoor
namespace Go.Proofs.YtfldnikepdbgkaaDoor
open Go Go.RowKit
section
variable {P : Program} {G : Mem}
def Again (P : Program) (G : Mem) (c B : Code) (Q : Exit → Act → Mem → Prop) (a : Act) (m : Mem) : Prop :=
  ∀ (B0 : Nat) (L : List Nat) (w0 w : World), B0 ≤ w0.heap.size → Holds G B0 L w0 m w → ∀ (b : Frame) (k : List Item) (cs : List Frame), ∃ e a' w', (∃ m', Q e a' m' ∧ Holds G B0 L w0 m' w') ∧ Arrives P (lone (b.at a (.code (.seq .skip B) :: .inScope c :: k)) cs w) b k cs e a' w'
def jumpM (l : Nat) (J : Act → Mem → Prop) (Q : Exit → Act → Mem → Prop) : Exit → Act → Mem → Prop
  | .goto l', a, m => l' = l ∧ J a m
  | e, a, m => Q e a m
theorem sat_scope {c B : Code} {l : Nat} {Q : Exit → Act → Mem → Prop} {a : Act} {m : Mem} (hf : findLabel c l = some (.seq .skip B)) (h : Sat P G c (jumpM l (Again P G c B Q) Q) a m) : Sat P G (.scope c) Q a m := by
  intro B0 L w0 w hB hw b k cs
  have hg : gotoIn l (.inScope c :: k) = some (.code (.seq .skip B) :: .inScope c :: k) := by simp [gotoIn, hf]
  obtain ⟨e, a₁, w₁, ⟨m1, hq, hw1⟩, harr⟩ := h B0 L w0 w hB hw b (.inScope c :: k) cs
  cases e with
  | normal => exact ⟨.normal, a₁, w₁, ⟨m1, hq, hw1⟩, .head step_scope (Steps.trans harr (.one step_inScope))⟩
  | exit id => exact ⟨.exit id, a₁, w₁, ⟨m1, hq, hw1⟩, fun k' hk => .head step_scope (harr k' (by simp [exitTo, hk]))⟩
  | goto l' =>
    obtain ⟨rfl, hJ'⟩ := hq
    obtain ⟨e₂, a₂, w₂, hq₂, harr₂⟩ := hJ' B0 L w0 w₁ hB hw1 b k cs
    exact ⟨e₂, a₂, w₂, hq₂, .of_steps (.head step_scope (harr _ hg)) harr₂⟩
  | ret => exact ⟨_, a₁, w₁, ⟨m1, hq, hw1⟩, .of_steps (.one step_scope) harr⟩
  | panic ch => exact ⟨_, a₁, w₁, ⟨m1, hq, hw1⟩, .of_steps (.one step_scope) harr⟩
  | outgrown => exact ⟨_, a₁, w₁, ⟨m1, hq, hw1⟩, .of_steps (.one step_scope) harr⟩
theorem again_of {c B : Code} {l : Nat} {Q : Exit → Act → Mem → Prop} (hf : findLabel c l = some (.seq .skip B)) (I : Nat → Act → Mem → Prop) (round : ∀ n a m, I n a m → Sat P G B (jumpM l (fun a' m' => ∃ n', n' < n ∧ I n' a' m') Q) a m) : ∀ n a m, I n a m → Again P G c B Q a m := by
  intro n
  induction n using Nat.strongRecOn with
  | _ n ih =>
    intro a m hI B0 L w0 w hB hw b k cs
    have hg : gotoIn l (.inScope c :: k) = some (.code (.seq .skip B) :: .inScope c :: k) := by simp [gotoIn, hf]
    have hs : Sat P G (.seq .skip B) (jumpM l (fun a' m' => ∃ n', n' < n ∧ I n' a' m') Q) a m := sat_seq (sat_skip (round n a m hI))
    obtain ⟨e, a₁, w₁, ⟨m1, hq, hw1⟩, harr⟩ := hs B0 L w0 w hB hw b (.inScope c :: k) cs
    cases e with
    | normal => exact ⟨.normal, a₁, w₁, ⟨m1, hq, hw1⟩, Steps.trans harr (.one step_inScope)⟩
    | exit id => exact ⟨.exit id, a₁, w₁, ⟨m1, hq, hw1⟩, fun k' hk => harr k' (by simp [exitTo, hk])⟩
    | goto l' =>
      obtain ⟨rfl, n', hn', hI'⟩ := hq
      obtain ⟨e₂, a₂, w₂, hq₂, harr₂⟩ := ih n' hn' a₁ m1 hI' B0 L w0 w₁ hB hw1 b k cs
      exact ⟨e₂, a₂, w₂, hq₂, .of_steps (harr _ hg) harr₂⟩
    | ret => exact ⟨_, a₁, w₁, ⟨m1, hq, hw1⟩, harr⟩
    | panic ch => exact ⟨_, a₁, w₁, ⟨m1, hq, hw1⟩, harr⟩
    | outgrown => exact ⟨_, a₁, w₁, ⟨m1, hq, hw1⟩, harr⟩
theorem sat_label {l : Nat} {Q : Exit → Act → Mem → Prop} {a : Act} {m : Mem} (h : Q .normal a m) : Sat P G (.label l) Q a m := fun _ _ _ _ _ hw => wp_label ⟨m, h, hw⟩
theorem sat_goto {l : Nat} {Q : Exit → Act → Mem → Prop} {a : Act} {m : Mem} (h : Q (.goto l) a m) : Sat P G (.goto l) Q a m := fun _ _ _ _ _ hw => wp_goto ⟨m, h, hw⟩
end
section
variable {P : Program} {G : Mem} {n : Nat} {Q : Exit → Env → Mm → Prop} {E : Env} {M : Mm}
def jumpE (l : Nat) (J : Env → Mm → Prop) (Q : Exit → Env → Mm → Prop) : Exit → Env → Mm → Prop
  | .goto l', a, m => l' = l ∧ J a m
  | e, a, m => Q e a m
def AgainE (P : Program) (G : Mem) (c B : Code) (n : Nat) (Q : Exit → Env → Mm → Prop) (E : Env) (M : Mm) : Prop := ∀ a m, Fits n E a → FitsM M m → Again P G c B (EQ n Q) a m
theorem e_goto {l : Nat} (h : Q (.goto l) E M) : SatE P G (.goto l) n Q E M := fun _ _ ha hM => sat_goto ⟨E, M, ha, hM, h⟩
theorem e_scope {c B : Code} {l : Nat} (hf : findLabel c l = some (.seq .skip B)) (h : SatE P G c n (jumpE l (AgainE P G c B n Q) Q) E M) : SatE P G (.scope c) n Q E M := fun a m ha hM =>
  sat_scope hf (sat_mono (h a m ha hM) fun e a' m' ⟨E', M', h1, h0, h2⟩ => by
    cases e with
    | goto l' => exact ⟨h2.1, h2.2 a' m' h1 h0⟩
    | _ => exact ⟨E', M', h1, h0, h2⟩)
theorem e_mark {c B : Code} {l : Nat} (hf : findLabel c l = some (.seq .skip B)) (I : Nat → Env → Mm → Prop) (E0 : Env) (M0 : Mm) (k : Nat) (hs : sub E0 E) (hl : subL M0 M) (h0 : I k E0 M0)
    (round : ∀ k E M, I k E M → SatE P G B n (jumpE l (fun E' M' => ∃ k' E'' M'', k' < k ∧ sub E'' E' ∧ subL M'' M' ∧ I k' E'' M'') Q) E M) : SatE P G (.seq (.label l) B) n (jumpE l (AgainE P G c B n Q) Q) E M := by
  have key : ∀ k a m, (∃ E M, Fits n E a ∧ FitsM M m ∧ I k E M) → Again P G c B (EQ n Q) a m := again_of hf (fun k a m => ∃ E M, Fits n E a ∧ FitsM M m ∧ I k E M) fun k a m ⟨E1, M1, hE, hM, hI⟩ =>
    sat_mono (round k E1 M1 hI a m hE hM) fun e a' m' ⟨E', M', h1, h0, h2⟩ => by
      cases e with
      | goto l' =>
        obtain ⟨e1, k', E'', M'', h3, h4, h6, h5⟩ := h2
        exact ⟨e1, k', h3, E'', M'', h1.sub h4, h0.sub h6, h5⟩
      | _ => exact ⟨E', M', h1, h0, h2⟩
  intro a m ha hM
  refine sat_seq (sat_label ?_)
  refine sat_mono (round k E0 M0 h0 a m (ha.sub hs) (hM.sub hl)) fun e a' m' ⟨E', M', h1, h0, h2⟩ => ⟨E', M', h1, h0, ?_⟩
  cases e with
  | goto l' =>
    obtain ⟨e1, k', E'', M'', h3, h4, h6, h5⟩ := h2
    exact ⟨e1, fun a1 m1 g1 g2 => key k' a1 m1 ⟨E'', M'', g1.sub h4, g2.sub h6, h5⟩⟩
  | _ => exact h2
theorem e_markK {c B : Code} {l : Nat} (hf : findLabel c l = some (.seq .skip B)) (Ek : Env) (Mk : Mm) (I : Nat → Env → Mm → Prop) (E0 : Env) (M0 : Mm) (k : Nat) (hs : sub (catE E0 Ek) E) (hl : subL (catL M0 Mk) M) (h0 : I k E0 M0)
    (round : ∀ k E M, I k E M → SatE P G B n (jumpE l (fun E' M' => ∃ k' E'' M'', k' < k ∧ sub (catE E'' Ek) E' ∧ subL (catL M'' Mk) M' ∧ I k' E'' M'') Q) (catE E Ek) (catL M Mk)) : SatE P G (.seq (.label l) B) n (jumpE l (AgainE P G c B n Q) Q) E M :=
  e_mark hf (fun k E M => ∃ E1 M1, E = catE E1 Ek ∧ M = catL M1 Mk ∧ I k E1 M1) (catE E0 Ek) (catL M0 Mk) k hs hl ⟨_, _, rfl, rfl, h0⟩ fun k E M ⟨E1, M1, e1, e2, hI⟩ => by
    subst e1 e2
    intro a m ha hM
    refine sat_mono (round k E1 M1 hI a m ha hM) fun e a' m' ⟨E', M', h1, h2, h3⟩ => ⟨E', M', h1, h2, ?_⟩
    cases e with
    | goto l' =>
      obtain ⟨e1, k', E'', M'', q1, q2, q3, q4⟩ := h3
      exact ⟨e1, k', _, _, q1, q2, q3, _, _, rfl, rfl, q4⟩
    | _ => exact h3
end
section
variable {P : Program} {G : Mem} {R : Reg} {ops : Array Oper} {n : Nat} {K : Env → Mm → Prop} {rest : List Oper} {E : Env} {M : Mm} {d : Nat} {ty : TypeId} {pos : String} {aft : Array Edge}
variable {T T' : TypeId} {x y : Operand}
theorem e_store1 {b i : Nat} {c : Array Value} {t : TypeId} {v : Value} (hs : (P.info? T).map (·.size) = some 1) (hx : rd E x = some (.pointer (some ⟨b, 0, none⟩))) (hy : rd E y = some v) (hv : v.oneCell' = true) (hm : lkM M i = some ⟨b, c, t⟩) (hc : c.size = 1) (hX : hid R ⟨none, .store T x y, ty, pos, aft, none⟩ b)
    (h : OpsE P G R ops n K rest E ((i, some ⟨b, #[v], t⟩) :: M)) (hYk : yOk R ⟨none, .store T x y, ty, pos, aft, none⟩ b := by first | exact yOk_none rfl _ _ | exact yOk_none (by assumption) _ _) : OpsE P G R ops n K (⟨none, .store T x y, ty, pos, aft, none⟩ :: rest) E M := fun _ _ ha hM => by
  obtain ⟨j, hj⟩ := hM.at hm
  have e : c.setIfInBounds 0 v = #[v] := by
    obtain ⟨q, rfl⟩ : ∃ q, c = #[q] := by
      rcases c with ⟨_ | ⟨p, _ | ⟨q, l⟩⟩⟩
      · simp at hc
      · exact ⟨p, rfl⟩
      · simp at hc
    rfl
  refine st_store1Y hs (ha.rd hx) (ha.rd hy) hv hj hX (by omega) ?_ hYk
  rw [e]
  exact h _ _ ha (hM.store hm hj _)
end
theorem hid_var {R : Reg} {o : Oper} {t b : Nat} (hY : R.Y = some (t, b)) (ht : addrT o = some t) : hid R o b := by
  unfold hid isY; rw [hY]; dsimp only; rw [ht]; exact .inl (by simp)
theorem hid_off {R : Reg} {o : Oper} {b : Nat} (hX : R.X = []) (h : offL R.L b) : hid R o b := by
  unfold hid
  cases R.Y with
  | none => exact .inl hX
  | some q => exact .inr ⟨.inl hX, h⟩
theorem y_var {R : Reg} {o : Oper} {t b : Nat} (hY : R.Y = some (t, b)) (ht : addrT o = some t) : yOk R o b := by
  unfold yOk; rw [hY]; dsimp only; rw [if_pos ht]
theorem y_none {R : Reg} (hY : R.Y = none) {o : Oper} {M : Mm} {i : Nat} : ∀ b : Blk, lkM M i = some b → ∀ m, FitsM M m → yOk R o b.b := fun b _ _ _ => yOk_none hY o b.b
theorem y_off {R : Reg} {o : Oper} {M : Mm} {i t : Nat} (j : Nat) {z : Blk} (hj : lkM M j = some z) (hij : i ≠ j) (hY : R.Y = some (t, z.b)) (ht : addrT o ≠ some t) : ∀ b : Blk, lkM M i = some b → ∀ m, FitsM M m → yOk R o b.b := fun b hb m hM => by
  unfold yOk; rw [hY]; dsimp only; rw [if_neg ht]
  exact hM.apart i j b z hb hj hij
section
variable {P : Program} {G : Mem} {R : Reg} {ops : Array Oper} {n : Nat} {K : Env → Mm → Prop} {rest : List Oper} {E : Env} {M : Mm} {d : Nat} {ty : TypeId} {pos : String} {aft : Array Edge}
variable {T T' : TypeId} {x y : Operand}
end
end Go.Proofs.YtfldnikepdbgkaaDoor
namespace Go.Proofs.YtfldnikepdbgkaaDoor
open Go Go.ChangeShapes Go.WideShapes Go.ChangeAt Go.RowKit
structure TT where
  kind : Int
  id : Int
  other : Int
  args : List TT
theorem TT.ind {p : TT → Prop} (h : ∀ t : TT, (∀ a ∈ t.args, p a) → p t) (t : TT) : p t :=
  TT.rec (motive_1 := p) (motive_2 := fun l => ∀ a ∈ l, p a) (fun k i o l hl => h ⟨k, i, o, l⟩ hl) (by simp) (fun a l h1 h2 b hb => by rcases List.mem_cons.1 hb with rfl | hb; exact h1; exact h2 b hb) t
def TT.nodes : TT → Nat
  | ⟨_, _, _, l⟩ => 1 + (l.map TT.nodes).sum
abbrev nodesL (l : List TT) : Nat := (l.map TT.nodes).sum
theorem TT.nodes_eq (t : TT) : t.nodes = 1 + nodesL t.args := by cases t; rw [TT.nodes]
def mx : List Nat → Nat
  | [] => 0
  | x :: l => max x (mx l)
def TT.deep : TT → Nat
  | ⟨_, _, _, l⟩ => 1 + mx (l.map TT.deep)
abbrev deepL (l : List TT) : Nat := mx (l.map TT.deep)
theorem TT.deep_eq (t : TT) : t.deep = 1 + deepL t.args := by cases t; rw [TT.deep]
theorem mx_le {l : List Nat} {n : Nat} : mx l ≤ n ↔ ∀ x ∈ l, x ≤ n := by
  induction l with
  | nil => simp [mx]
  | cons x l ih => rw [mx, Nat.max_le, ih]; simp
theorem deepL_le {l : List TT} {n : Nat} : deepL l ≤ n ↔ ∀ t ∈ l, t.deep ≤ n := by
  unfold deepL; rw [mx_le]; simp
def TV (G : Mem) : TT → Value → Prop
  | ⟨k, i, o, l⟩, v => ∃ c xs, v = .agg #[iv k, iv i, iv o, c] ∧ l.length ≤ maxLen ∧ Shows G 4 c l.length xs ∧ ∀ a, a ∈ l → ∀ j, l[j]? = some a → TV G a (.agg ((xs.drop (j * 4)).take 4).toArray)
abbrev tC (t : TT) (c : Value) : Array Value := cells 4 [pV (iv t.kind), pV (iv t.id), pV (iv t.other), pV c]
def TL (G : Mem) (l : List TT) (c : Value) (xs : List Value) : Prop := l.length ≤ maxLen ∧ Shows G 4 c l.length xs ∧ ∀ j (h : j < l.length), TV G l[j] (.agg ((xs.drop (j * 4)).take 4).toArray)
theorem TV_iff {G : Mem} {t : TT} {v : Value} : TV G t v ↔ ∃ c xs, v = .agg #[iv t.kind, iv t.id, iv t.other, c] ∧ TL G t.args c xs := by
  cases t
  rw [TV]
  constructor
  · rintro ⟨c, xs, e, h1, h2, h3⟩
    exact ⟨c, xs, e, h1, h2, fun j hj => h3 _ (List.getElem_mem hj) j (List.getElem?_eq_getElem hj)⟩
  · rintro ⟨c, xs, e, h1, h2, h3⟩
    refine ⟨c, xs, e, h1, h2, fun a _ j hj => ?_⟩
    obtain ⟨hj', rfl⟩ := List.getElem?_eq_some_iff.1 hj
    exact h3 j hj'
theorem TV.mono {G G' : Mem} (hs : ∀ x ∈ G, x ∈ G') {t : TT} : ∀ {v : Value}, TV G t v → TV G' t v := by
  refine TT.ind (p := fun t => ∀ {v : Value}, TV G t v → TV G' t v) (fun t ih v h => ?_) t
  obtain ⟨c, xs, e, h1, h2, h3⟩ := TV_iff.1 h
  exact TV_iff.2 ⟨c, xs, e, h1, h2.mono hs, fun j hj => ih _ (List.getElem_mem hj) (h3 j hj)⟩
theorem TL.mono {G G' : Mem} (hs : ∀ x ∈ G, x ∈ G') {l : List TT} {c : Value} {xs : List Value} (h : TL G l c xs) : TL G' l c xs :=
  ⟨h.1, h.2.1.mono hs, fun j hj => (h.2.2 j hj).mono hs⟩
theorem TL.at {G : Mem} {l : List TT} {c : Value} {xs : List Value} (h : TL G l c xs) {j : Nat} (hj : j < l.length) : ∃ c' ys, (xs.drop (j * 4)).take 4 = [iv l[j].kind, iv l[j].id, iv l[j].other, c'] ∧ TL G l[j].args c' ys := by
  obtain ⟨c', ys, e, hl⟩ := TV_iff.1 (h.2.2 j hj)
  refine ⟨c', ys, ?_, hl⟩
  have := congrArg (fun v => match v with | .agg a => a.toList | _ => []) e
  simpa using this
theorem tl_nil {G : Mem} : TL G [] nilS [] := ⟨by simp [maxLen], .inl ⟨rfl, rfl, none, 0, rfl, fun _ => rfl⟩, fun j hj => absurd hj (Nat.not_lt_zero j)⟩
def roomL (l : List TT) (r d : Nat) : Int := if nodesL l ≤ r ∧ deepL l ≤ d then ((r - nodesL l : Nat) : Int) else -1
theorem nodesL_take {l : List TT} {i : Nat} (h : i < l.length) : nodesL (l.take (i + 1)) = nodesL (l.take i) + l[i].nodes := by
  unfold nodesL
  rw [List.take_succ_eq_append_getElem h, List.map_append, List.sum_append]
  simp
theorem nodesL_le (l : List TT) (i : Nat) : nodesL (l.take i) ≤ nodesL l := by
  have : nodesL l = nodesL (l.take i) + nodesL (l.drop i) := by
    unfold nodesL; rw [← List.sum_append, ← List.map_append, List.take_append_drop]
  omega
theorem room_full {l : List TT} {r d i : Nat} (hi : i < l.length) (h : nodesL (l.take i) = r ∨ d = 0) : roomL l r d = -1 := by
  unfold roomL
  rw [if_neg]
  rintro ⟨h1, h2⟩
  have hn := nodesL_take hi
  have hl := nodesL_le l (i + 1)
  have hd := deepL_le.1 h2 l[i] (List.getElem_mem hi)
  have e1 := l[i].nodes_eq
  have e2 := l[i].deep_eq
  omega
theorem room_bad {l : List TT} {r d i : Nat} (hi : i < l.length) (hr : nodesL (l.take i) < r) (hd : 0 < d) (h : roomL l[i].args (r - nodesL (l.take i) - 1) (d - 1) < 0) : roomL l r d = -1 := by
  unfold roomL at h ⊢
  rw [if_neg]
  rintro ⟨h1, h2⟩
  have hn := nodesL_take hi
  have hl := nodesL_le l (i + 1)
  have hd := deepL_le.1 h2 l[i] (List.getElem_mem hi)
  have e1 := l[i].nodes_eq
  have e2 := l[i].deep_eq
  rw [if_pos ⟨by omega, by omega⟩] at h
  omega
theorem room_next {l : List TT} {r d i : Nat} (hi : i < l.length) (hr : nodesL (l.take i) < r) (hd : 0 < d) (h : ¬ roomL l[i].args (r - nodesL (l.take i) - 1) (d - 1) < 0) :
    roomL l[i].args (r - nodesL (l.take i) - 1) (d - 1) = ((r - nodesL (l.take (i + 1)) : Nat) : Int) ∧ nodesL (l.take (i + 1)) ≤ r ∧ l[i].deep ≤ d := by
  have hn := nodesL_take hi
  have e1 := l[i].nodes_eq
  have e2 := l[i].deep_eq
  unfold roomL at h ⊢
  by_cases hc : nodesL l[i].args ≤ r - nodesL (l.take i) - 1 ∧ deepL l[i].args ≤ d - 1
  · rw [if_pos hc]
    exact ⟨by congr 1; omega, by omega, by omega⟩
  · rw [if_neg hc] at h; omega
theorem room_end {l : List TT} {r d : Nat} (h1 : nodesL (l.take l.length) ≤ r) (h2 : ∀ j (h : j < l.length), l[j].deep ≤ d) : roomL l r d = ((r - nodesL (l.take l.length) : Nat) : Int) := by
  unfold roomL
  rw [List.take_length] at h1 ⊢
  rw [if_pos ⟨h1, deepL_le.2 fun t ht => by obtain ⟨j, hj, rfl⟩ := List.mem_iff_getElem.1 ht; exact h2 j hj⟩]
def fitsL (l : List TT) : Bool := decide (nodesL l ≤ 300) && decide (deepL l ≤ 40)
theorem room_fits (l : List TT) : decide ((0 : Int) ≤ roomL l 300 40) = fitsL l := by
  unfold roomL fitsL
  by_cases h : nodesL l ≤ 300 ∧ deepL l ≤ 40
  · rw [if_pos h, decide_eq_true h.1, decide_eq_true h.2]; simp
  · rw [if_neg h]
    by_cases h1 : nodesL l ≤ 300
    · rw [decide_eq_false (fun h2 => h ⟨h1, h2⟩)]; simp
    · rw [decide_eq_false h1]; simp
def wdt (k : Int) : Nat := if k = 5 then 1 else if k = 4 ∨ k = 6 then 2 else if k = 7 then 3 else 0
def numB (k i o : Int) : Bool := if k = 3 then decide (0 ≤ i) && decide (i ≤ o) else if k = 1 ∨ k = 2 ∨ k = 6 then decide (0 ≤ i) && decide (o = 0) else decide (i = 0) && decide (o = 0)
theorem wdt_ways (k : Int) : (k = 5 ∧ wdt k = 1) ∨ (k ≠ 5 ∧ (k = 4 ∨ k = 6) ∧ wdt k = 2) ∨ (k = 7 ∧ wdt k = 3) ∨ ((k ≠ 5 ∧ k ≠ 4 ∧ k ≠ 6 ∧ k ≠ 7) ∧ wdt k = 0) := by
  unfold wdt; repeat' split
  all_goals omega
theorem num_ways (k i o : Int) : (k = 3 ∧ numB k i o = (decide (0 ≤ i) && decide (i ≤ o))) ∨ ((k = 1 ∨ k = 2 ∨ k = 6) ∧ numB k i o = (decide (0 ≤ i) && decide (o = 0))) ∨ ((k ≠ 3 ∧ k ≠ 1 ∧ k ≠ 2 ∧ k ≠ 6) ∧ numB k i o = (decide (i = 0) && decide (o = 0))) := by
  unfold numB; repeat' split
  · exact .inl ⟨by assumption, rfl⟩
  · exact .inr (.inl ⟨by assumption, rfl⟩)
  · exact .inr (.inr ⟨by omega, rfl⟩)
def fst1 : List Nat → Nat
  | [] => 0
  | x :: l => if x = 0 then fst1 l else x
def TT.form : TT → Nat
  | ⟨k, i, o, l⟩ => if k < 1 ∨ 7 < k then 2 else if l.length ≠ wdt k ∨ numB k i o = false then 3 else fst1 (l.map TT.form)
abbrev formL (l : List TT) : Nat := fst1 (l.map TT.form)
theorem form_eq (t : TT) : t.form = if t.kind < 1 ∨ 7 < t.kind then 2 else if t.args.length ≠ wdt t.kind ∨ numB t.kind t.id t.other = false then 3 else formL t.args := by cases t; rw [TT.form]
theorem fst1_at : ∀ {l : List Nat} {i : Nat} (hi : i < l.length), (∀ j (h : j < i), l[j] = 0) → l[i] ≠ 0 → fst1 l = l[i]
  | x :: l, 0, _, _, h => by rw [fst1, if_neg (show ¬ x = 0 from h)]; rfl
  | x :: l, i + 1, hi, h0, h => by
    rw [fst1, if_pos (show x = 0 from h0 0 (by omega))]
    exact fst1_at (by simpa using hi) (fun j hj => h0 (j + 1) (by omega)) h
theorem fst1_none : ∀ {l : List Nat}, (∀ j (h : j < l.length), l[j] = 0) → fst1 l = 0
  | [], _ => rfl
  | x :: l, h => by rw [fst1, if_pos (show x = 0 from h 0 (by simp))]; exact fst1_none fun j hj => h (j + 1) (by simpa using hj)
theorem formL_at {l : List TT} {i : Nat} (hi : i < l.length) (h0 : ∀ j (h : j < i), (l[j]'(by omega)).form = 0) (h : l[i].form ≠ 0) : formL l = l[i].form := by
  unfold formL
  rw [fst1_at (i := i) (by simpa using hi) (fun j hj => by simpa using h0 j hj) (by simpa using h)]; simp
theorem formL_none {l : List TT} (h : ∀ j (h : j < l.length), l[j].form = 0) : formL l = 0 := fst1_none fun j hj => by simpa using h j (by simpa using hj)
def allB : List (TT → Bool) → List TT → Bool
  | [], [] => true
  | f :: l, u :: m => f u && allB l m
  | _, _ => false
def TT.eqb : TT → TT → Bool
  | ⟨k, i, o, l⟩, u => decide (k = u.kind) && decide (i = u.id) && decide (o = u.other) && allB (l.map fun a => fun x => a.eqb x) u.args
theorem allB_iff : ∀ {l m : List TT}, (∀ a ∈ l, ∀ u : TT, a.eqb u = true ↔ a = u) → (allB (l.map fun a => fun x => a.eqb x) m = true ↔ l = m)
  | [], [], _ => by simp [allB]
  | [], _ :: _, _ => by simp [allB]
  | _ :: _, [], _ => by simp [allB]
  | a :: l, b :: m, h => by
    rw [List.map_cons, allB, Bool.and_eq_true, h a (by simp), allB_iff fun x hx => h x (by simp [hx]), List.cons.injEq]
theorem eqb_iff (t : TT) : ∀ u : TT, t.eqb u = true ↔ t = u := by
  refine TT.ind (p := fun t => ∀ u, t.eqb u = true ↔ t = u) (fun t ih u => ?_) t
  obtain ⟨k, i, o, l⟩ := t
  rw [TT.eqb]
  simp only [Bool.and_eq_true, decide_eq_true_eq]
  rw [allB_iff ih]
  cases u
  simp only [TT.mk.injEq, and_assoc]
theorem eqb_self (t : TT) : t.eqb t = true := (eqb_iff t t).2 rfl
def eqbL (l m : List TT) : Bool := decide (l.length = m.length) && (List.range l.length).all (fun j => (l.getD j ⟨0, 0, 0, []⟩).eqb (m.getD j ⟨0, 0, 0, []⟩))
theorem eqbL_iff (l m : List TT) : eqbL l m = true ↔ l = m := by
  unfold eqbL
  simp only [Bool.and_eq_true, decide_eq_true_eq, List.all_eq_true, List.mem_range]
  constructor
  · rintro ⟨h1, h2⟩
    refine List.ext_getElem h1 fun j hj hj' => ?_
    have := h2 j hj
    rw [List.getD_eq_getElem?_getD, List.getElem?_eq_getElem hj, List.getD_eq_getElem?_getD, List.getElem?_eq_getElem hj'] at this
    exact (eqb_iff _ _).1 this
  · rintro rfl
    exact ⟨rfl, fun j _ => eqb_self _⟩
theorem eqbL_all {l m : List TT} (h : l.length = m.length) (h2 : ∀ j (h1 : j < l.length) (h2 : j < m.length), l[j].eqb m[j] = true) : eqbL l m = true :=
  (eqbL_iff l m).2 (List.ext_getElem h fun j h1 h3 => (eqb_iff _ _).1 (h2 j h1 h3))
theorem eqbL_len {l m : List TT} (h : l.length ≠ m.length) : eqbL l m = false := by
  cases e : eqbL l m with
  | false => rfl
  | true => exact absurd (congrArg List.length ((eqbL_iff l m).1 e)) h
theorem eqbL_at {l m : List TT} {j : Nat} (h1 : j < l.length) (h2 : j < m.length) (h : l[j].eqb m[j] = false) : eqbL l m = false := by
  cases e : eqbL l m with
  | false => rfl
  | true =>
    have := (eqbL_iff l m).1 e
    subst this
    rw [eqb_self] at h; cases h
theorem eqb_parts (t u : TT) : t.eqb u = (decide (t.kind = u.kind) && decide (t.id = u.id) && decide (t.other = u.other) && eqbL t.args u.args) := by
  cases e : t.eqb u with
  | true =>
    have := (eqb_iff t u).1 e
    subst this
    rw [(eqbL_iff _ _).2 rfl]; simp
  | false =>
    by_cases h1 : t.kind = u.kind
    · by_cases h2 : t.id = u.id
      · by_cases h3 : t.other = u.other
        · cases h4 : eqbL t.args u.args with
          | false => simp
          | true =>
            have := (eqbL_iff _ _).1 h4
            have : t = u := by cases t; cases u; simp only [TT.mk.injEq] at *; exact ⟨h1, h2, h3, this⟩
            subst this
            rw [eqb_self] at e; cases e
        · rw [decide_eq_false h3]; simp
      · rw [decide_eq_false h2]; simp
    · rw [decide_eq_false h1]; simp
theorem fill_tC {Z : Array Value} (hZ : Z.size = 4) {t : TT} {c : Value} : Instr.fill (fun i => some (i * 4, 4)) Z [(0, .agg (tC t c))] = some (tC t c) := by
  obtain ⟨p, q, r, s, rfl⟩ : ∃ p q r s, Z = #[p, q, r, s] := by
    rcases Z with ⟨_ | ⟨p, _ | ⟨q, _ | ⟨r, _ | ⟨s, _ | ⟨s2, l⟩⟩⟩⟩⟩⟩
    · simp at hZ
    · simp at hZ
    · simp at hZ
    · simp at hZ
    · exact ⟨p, q, r, s, rfl⟩
    · simp at hZ
  rfl
def chkT (t : TT) : Nat := if fitsL [t] = true then t.form else 1
theorem tl_one {G : Mem} {t : TT} {c : Value} {xs : List Value} {r : Nat} {ty : TypeId} (hT : TL G t.args c xs) (hm : (⟨r, tC t c, ty⟩ : Blk) ∈ G) : TL G [t] (.slice (some ⟨r, 0, none⟩) 1 1) [iv t.kind, iv t.id, iv t.other, c] :=
  ⟨by simp [maxLen], .inr ⟨r, 0, 1, _, ty, rfl, by simp, hm, rfl, by rw [arrv_size]; simp, fun j u hu => by
    rw [Nat.zero_add, ← hu]
    match j, hu with
    | 0, _ => rfl
    | 1, _ => rfl
    | 2, _ => rfl
    | 3, _ => rfl⟩, fun j hj => by
    have : j = 0 := by simpa using hj
    subst this
    exact TV_iff.2 ⟨c, xs, rfl, hT⟩⟩
section
variable {P : Program} {H : Type} {enc : TypeId × Value → H}
end
end Go.Proofs.YtfldnikepdbgkaaDoor
namespace Go.Proofs.YtfldnikepdbgkaaDoor
open Go Go.RowKit
section
variable {P : Program} {G : Mem} {R : Reg} {ops : Array Oper} {K : Act → Mem → Prop} {rest : List Oper} {a : Act} {m : Mem} {d : Option Tmp} {ty : TypeId} {pos : String} {aft : Array Edge}
variable {T T' : TypeId} {x y : Operand}
theorem st_storeG {b o i : Nat} {c c' : Array Value} {t : TypeId} (hs : (P.info? T).map (·.size) = some c'.size) (hx : a.eval x = .pointer (some ⟨b, o, none⟩)) (hy : a.eval y = .agg c')
    (hv : ∀ v ∈ c', v.oneCell' = true) (hm : m[i]? = some ⟨b, c, t⟩) (hX : hid R ⟨d, .store T x y, ty, pos, aft, none⟩ b) (ho : o + c'.size ≤ c.size) (h : opsM P G R ops K rest (a.put d undef) (m.set i ⟨b, (c.toList.take o ++ c'.toList ++ c.toList.drop (o + c'.size)).toArray, t⟩)) (hYk : yOk R ⟨d, .store T x y, ty, pos, aft, none⟩ b) : opsM P G R ops K (⟨d, .store T x y, ty, pos, aft, none⟩ :: rest) a m :=
  store_atY hm hX (c.toList.take o ++ c'.toList ++ c.toList.drop (o + c'.size)).toArray (by simp; omega) (fun w hin => by
    have hst := run_storeCells_in (P := P) b o t c'.toList 0 c w hin (by simpa using ho) (fun v h => hv v (by simpa using h))
    have hl : c'.toList.length = c'.size := by simp
    rw [hl, Nat.add_zero, setRow_blk (t := t)] at hst
    cases hi : P.info? T with
    | none => simp [hi] at hs
    | some j =>
      have hsz : j.size = c'.size := by simpa [hi] using hs
      simp only [execOp, Instr.storeAt, hx, hy, Instr.sureAddr, storeVar, sizeOf, typeInfo]
      simp [hi, hsz, Value.cells, hst]) h hYk
end
section
variable {P : Program} {G : Mem} {R : Reg} {ops : Array Oper} {n : Nat} {K : Env → Mm → Prop} {rest : List Oper} {E : Env} {M : Mm} {d : Nat} {ty : TypeId} {pos : String} {aft : Array Edge}
variable {T T' : TypeId} {x y : Operand}
theorem e_stOwnS {i k j z : Nat} {e : TypeId} {v : Value} {c : Array Value} {xs : List Value} {oz : Option Blk} (hown : OwnS e z v k xs oz.toList) (hs : (P.info? T).map (·.size) = some z) (hx : rd E x = some (slAddr v (j * z))) (hy : rd E y = some (.agg c)) (hc : c.size = z) (hw : ∀ u ∈ c, u.oneCell' = true) (hi : lkM M i = oz) (hj : j < k) (hX : R.X = [])
    (h : ∀ oz' : Option Blk, OwnS e z v k (xs.take (j * z) ++ c.toList ++ xs.drop (j * z + z)) oz'.toList → OpsE P G R ops n K rest E ((i, oz') :: M)) (hYk : ∀ b : Blk, lkM M i = some b → ∀ m, FitsM M m → yOk R ⟨none, .store T x y, ty, pos, aft, none⟩ b.b := by first | exact y_none rfl | exact y_none (by assumption)) (hoff : OffL M i R.L := by first | exact trivial | assumption) : OpsE P G R ops n K (⟨none, .store T x y, ty, pos, aft, none⟩ :: rest) E M :=
  fun _ m ha hM => by
    rcases hown with ⟨_, h0, _, _⟩ | ⟨r, cap, cs, rfl, hl, hcp, hm, hz, hxl, ht⟩
    · omega
    · have hoz : oz = some ⟨r, cs, e⟩ := by
        cases oz with
        | none => simp at hl
        | some z => simp at hl; rw [hl]
      subst hoz
      obtain ⟨q, hq⟩ := hM.at hi
      have hm1 : j * z + z ≤ k * z := by rw [← Nat.succ_mul]; exact Nat.mul_le_mul_right _ hj
      have hm2 : k * z ≤ cap * z := Nat.mul_le_mul_right _ hcp
      have hx' : rd E x = some (.pointer (some ⟨r, j * z, none⟩)) := by
        rw [hx]; simp [slAddr]
      have hlen : xs.length = k * z := hxl
      have hck : c.toList.length = z := by simpa using hc
      refine st_storeG (hc ▸ hs) (ha.rd hx') (ha.rd hy) hw hq (hid_off hX (hoff.off hM hi ⟨r, cs, e⟩ (by simp))) (by omega) ?_ (hYk _ hi _ hM)
      refine h (some ⟨r, _, e⟩) (.inr ⟨r, cap, _, rfl, rfl, hcp, hm, ?_, ?_, ?_⟩) _ _ ha (hM.store hi hq _)
      · simp; omega
      · simp; omega
      · have e1 : (cs.toList.take (j * z) ++ c.toList ++ cs.toList.drop (j * z + c.size)).toArray.toList = cs.toList.take (j * z) ++ c.toList ++ cs.toList.drop (j * z + z) := by rw [hc]
        rw [e1]
        have lc : cs.toList.length = cs.size := by simp
        have l1 : (cs.toList.take (j * z)).length = j * z := by rw [List.length_take, lc]; omega
        have l2 : (xs.take (j * z)).length = j * z := by rw [List.length_take]; omega
        have l3 : (cs.toList.take (j * z) ++ c.toList).length = j * z + z := by rw [List.length_append, l1, hck]
        have l4 : (xs.take (j * z) ++ c.toList).length = j * z + z := by rw [List.length_append, l2, hck]
        apply List.ext_getElem?
        intro p
        by_cases hp : p < k * z
        · rw [List.getElem?_take_of_lt hp]
          by_cases h1 : p < j * z
          · rw [List.getElem?_append_left (by rw [l3]; omega), List.getElem?_append_left (by rw [l1]; omega), List.getElem?_append_left (by rw [l4]; omega), List.getElem?_append_left (by rw [l2]; omega), List.getElem?_take_of_lt h1, List.getElem?_take_of_lt h1, ← ht, List.getElem?_take_of_lt hp]
          · by_cases h2 : p < j * z + z
            · rw [List.getElem?_append_left (l₁ := cs.toList.take (j * z) ++ c.toList) (by rw [l3]; omega), List.getElem?_append_right (l₁ := cs.toList.take (j * z)) (by rw [l1]; omega), List.getElem?_append_left (l₁ := xs.take (j * z) ++ c.toList) (by rw [l4]; omega), List.getElem?_append_right (l₁ := xs.take (j * z)) (by rw [l2]; omega), l1, l2]
            · rw [List.getElem?_append_right (l₁ := cs.toList.take (j * z) ++ c.toList) (by rw [l3]; omega), List.getElem?_append_right (l₁ := xs.take (j * z) ++ c.toList) (by rw [l4]; omega), List.getElem?_drop, List.getElem?_drop, l3, l4, ← ht, List.getElem?_take_of_lt (by omega)]
        · rw [List.getElem?_eq_none (by rw [List.length_take]; omega), List.getElem?_eq_none (by rw [List.length_append, l4, List.length_drop]; omega)]
theorem own_fill {e : TypeId} {z : Nat} {v : Value} {xs zs cs : List Value} {k : Nat} {l : Mem} (hx : xs.length = k * z) (hz : zs.length = z) (ho : OwnS e z v (k + 1) ((xs ++ zs).take (k * z) ++ cs ++ (xs ++ zs).drop (k * z + z)) l) : OwnS e z v (k + 1) (xs ++ cs) l := by
  have e1 : (xs ++ zs).take (k * z) = xs := by rw [← hx]; exact List.take_left
  have e2 : (xs ++ zs).drop (k * z + z) = [] := List.drop_eq_nil_of_le (by rw [List.length_append]; omega)
  rw [e1, e2, List.append_nil] at ho
  exact ho
end
theorem swap_mem {α : Type} {a b : α} {l : List α} : ∀ z ∈ a :: b :: l, z ∈ b :: a :: l := fun z hz => by
  simp only [List.mem_cons] at hz ⊢
  rcases hz with h | h | h
  · exact .inr (.inl h)
  · exact .inl h
  · exact .inr (.inr h)
theorem own_app {α : Type} {e : TypeId} {z : Nat} {v : Value} {L : List α} (x : α) {xs : List Value} {l : Mem} (h : OwnS e z v (L.length + 1) xs l) : OwnS e z v (L ++ [x]).length xs l := by
  rw [List.length_append]; exact h
def TO (G : Mem) (L : List TT) (xs : List Value) : Prop := xs.length = L.length * 4 ∧ ∀ j (h : j < L.length), TV G L[j] (.agg ((xs.drop (j * 4)).take 4).toArray)
theorem TL.to {G : Mem} {L : List TT} {c : Value} {xs : List Value} (h : TL G L c xs) : TO G L xs := ⟨h.2.1.len, h.2.2⟩
theorem TO.nil {G : Mem} : TO G [] [] := ⟨rfl, fun j h => absurd h (Nat.not_lt_zero j)⟩
theorem TO.mono {G G' : Mem} (hs : ∀ x ∈ G, x ∈ G') {L : List TT} {xs : List Value} (h : TO G L xs) : TO G' L xs := ⟨h.1, fun j hj => (h.2 j hj).mono hs⟩
theorem TO.app {G : Mem} {L L' : List TT} {xs ys : List Value} (h : TO G L xs) (h' : TO G L' ys) : TO G (L ++ L') (xs ++ ys) := by
  refine ⟨by rw [List.length_append, List.length_append, h.1, h'.1, Nat.add_mul], fun j hj => ?_⟩
  by_cases hl : j < L.length
  · have e : ((xs ++ ys).drop (j * 4)).take 4 = (xs.drop (j * 4)).take 4 := by
      rw [List.drop_append_of_le_length (by rw [h.1]; omega), List.take_append_of_le_length (by rw [List.length_drop, h.1]; omega)]
    rw [e, List.getElem_append_left hl]; exact h.2 j hl
  · have e : ((xs ++ ys).drop (j * 4)).take 4 = (ys.drop ((j - L.length) * 4)).take 4 := by
      rw [List.drop_append, List.drop_eq_nil_of_le (by rw [h.1]; omega), List.nil_append, h.1]
      congr 2; omega
    rw [e, List.getElem_append_right (by omega)]
    exact h'.2 (j - L.length) (by rw [List.length_append] at hj; omega)
theorem to_one {G : Mem} {t : TT} {c : Value} {ys : List Value} (h : TL G t.args c ys) : TO G [t] (tC t c).toList := ⟨rfl, fun j hj => by
  have : j = 0 := by simpa using hj
  subst this
  exact TV_iff.2 ⟨c, ys, rfl, h⟩⟩
theorem TO.tl {G : Mem} {e : TypeId} {L : List TT} {v : Value} {xs : List Value} {l : Mem} (h : TO G L xs) (ho : OwnS e 4 v L.length xs l) (hn : L.length ≤ maxLen) : TL (l ++ G) L v xs :=
  ⟨hn, ho.shows.mono fun _ hx => List.mem_append_left _ hx, fun j hj => (h.2 j hj).mono fun _ hx => List.mem_append_right _ hx⟩
theorem TO.ones {G : Mem} {L : List TT} {xs : List Value} (h : TO G L xs) : ∀ u ∈ xs, u.oneCell' = true := fun u hu => by
  obtain ⟨p, hp, rfl⟩ := List.mem_iff_getElem.1 hu
  have hj : p / 4 < L.length := by rw [h.1] at hp; omega
  obtain ⟨c', ys, e, hl⟩ := TV_iff.1 (h.2 (p / 4) hj)
  have e2 : (xs.drop (p / 4 * 4)).take 4 = [iv L[p / 4].kind, iv L[p / 4].id, iv L[p / 4].other, c'] := by
    have := congrArg (fun v => match v with | .agg a => a.toList | _ => []) e
    simpa using this
  have hg : ((xs.drop (p / 4 * 4)).take 4)[p % 4]? = some xs[p] := by
    rw [List.getElem?_take_of_lt (by omega), List.getElem?_drop, show p / 4 * 4 + p % 4 = p by omega, List.getElem?_eq_getElem hp]
  rw [e2] at hg
  have hm : xs[p] ∈ [iv L[p / 4].kind, iv L[p / 4].id, iv L[p / 4].other, c'] := List.mem_of_getElem? hg
  simp only [List.mem_cons, List.not_mem_nil, or_false] at hm
  rcases hm with h1 | h1 | h1 | h1
  · rw [h1]; rfl
  · rw [h1]; rfl
  · rw [h1]; rfl
  · rw [h1]; exact shows_oneC hl.2.1
theorem TL.drop2 {G : Mem} {l : List TT} {c : Value} {xs : List Value} (h : TL G l c xs) (h2 : 2 ≤ l.length) : TL G (l.drop 2) (slPart 4 c 2 l.length) (xs.drop 8) := by
  have hs := h.2.1.part (i := 2) (j := l.length) h2 (Nat.le_refl _)
  have hx := h.2.1.len
  have e : (xs.drop (2 * 4)).take ((l.length - 2) * 4) = xs.drop 8 := List.take_of_length_le (by rw [List.length_drop]; omega)
  rw [e] at hs
  refine ⟨by have := h.1; rw [List.length_drop]; omega, by rw [List.length_drop]; exact hs, fun j hj => ?_⟩
  have hj2 : 2 + j < l.length := by rw [List.length_drop] at hj; omega
  have := h.2.2 (2 + j) hj2
  rw [List.getElem_drop, List.drop_drop]
  rw [show 8 + j * 4 = (2 + j) * 4 by omega]; exact this
end Go.Proofs.YtfldnikepdbgkaaDoor
namespace Go.Proofs.YtfldnikepdbgkaaDoor
open Go Go.RowKit
section
variable {P : Program} {G : Mem} {R : Reg} {ops : Array Oper} {n : Nat} {K : Env → Mm → Prop} {Q : Exit → Env → Mm → Prop} {rest : List Oper} {E : Env} {M : Mm} {d : Nat} {ty : TypeId} {pos : String} {aft : Array Edge}
def EndWD2 (P : Program) (b : Nat) (t : TypeId) (S : Value → Value → Array Value → Mem → Prop) (fn : Func) : Exit → Env → Mm → Prop
  | .normal, E, M | .ret, E, M => ∃ r r' v v' c' fz, fn.results = #[r, r'] ∧ Res P E M r v ∧ Res P E M r' v' ∧ S v v' c' fz ∧ (∃ i, Nat.blt i 1000 = true ∧ lkM M i = some ⟨b, c', t⟩) ∧ Bag fz M
  | _, _, _ => False
def EndDV (P : Program) (S : Value → Mem → Prop) (fn : Func) : Exit → Env → Mm → Prop
  | .normal, E, M | .ret, E, M => ∃ r r' v v' fz, fn.results = #[r, r'] ∧ Res P E M r v ∧ Res P E M r' v' ∧ S (.tuple #[v, v']) fz ∧ Bag fz M
  | _, _, _ => False
theorem fxDV {f : FuncId} {fn : Func} {c : Code} {args : Array Value} {S : Value → Mem → Prop} (hf : P.funcs[f]? = some fn) (hb : fn.body = some c) (hn : fn.ntmps = n) (ha : args.size ≤ n) (E : Env) (hE : ∀ t v, lk E t = some v → args[t]? = some v)
    (h : SatE P G c n (EndDV P S fn) E []) : Fx P G [] f args (fun v l1 nw => l1 = [] ∧ S v nw) :=
  fx_of hf hb (sat_mono (h _ [] ⟨by simp [hn]; omega, rfl, fun t v ht => by
    have := hE t v ht
    have hlt := (Array.getElem?_eq_some_iff.1 this).1
    rw [Array.getElem?_append_left hlt]; exact this⟩ (FitsM.nil _)) fun e' a m ⟨E', M', h1, h0, h2⟩ => by
      have key : (∃ r r' v v' fz, fn.results = #[r, r'] ∧ Res P E' M' r v ∧ Res P E' M' r' v' ∧ S (.tuple #[v, v']) fz ∧ Bag fz M') → a.defers = [] ∧ ∃ v l1 nw, (l1 = [] ∧ S v nw) ∧ (nw.map (·.b)).Nodup ∧ (∀ x ∈ nw, x.b ∉ ([] : Mem).map (·.b)) ∧ (∀ x ∈ l1 ++ nw, x ∈ m) ∧ ∀ w, MemIn m w → (results fn a.tmps).run P w = .ok v w := fun ⟨r, r', v, v', fz, hr, hR, hR', ho, hb⟩ =>
        ⟨h1.defers, .tuple #[v, v'], [], fz, ⟨rfl, ho⟩, (h0.bag_in hb).1, by simp, fun x hx => (h0.bag_in hb).2 x (by simpa using hx), fun w hw => by
          have := res_run h1 h0 hw hR
          have t' := res_run h1 h0 hw hR'
          rw [results_eq, hr, mapM2]
          simp [this, t']⟩
      cases e' <;> first | exact key h2 | exact h2.elim)
end
end Go.Proofs.YtfldnikepdbgkaaDoor
namespace Go.Proofs.YtfldnikepdbgkaaDoor
open Go Go.RowKit
section
variable {P : Program} {G : Mem} {R : Reg} {ops : Array Oper} {K : Act → Mem → Prop} {rest : List Oper} {a : Act} {m : Mem} {d : Option Tmp} {ty : TypeId} {pos : String} {aft : Array Edge}
variable {T T' : TypeId} {x y : Operand}
theorem st_eqNil {e : TypeId} {oa : Option Addr} {len cap : Nat} (hT : P.underlying T = some (.slice e)) (hx : a.eval x = .slice oa len cap) (hy : a.eval y = nilS) (h : opsM P G R ops K rest (a.put d (.bool oa.isNone)) m) :
    opsM P G R ops K (⟨d, .binOp .eql T x y T', ty, pos, aft, none⟩ :: rest) a m :=
  st_bin (fun w => by
    have h1 : (Op.equalIn 10000 T (.slice oa len cap) (.slice none 0 0)).run P w = .ok oa.isNone w := by
      unfold Op.equalIn
      rw [Sem.run_bind, run_underlying hT]
      cases oa <;> rfl
    rw [hx, hy]
    simp only [Sem.run_bind, eqGuard, binOp, Op.equal, Op.maxDepth]
    simp [h1]) h
end
section
variable {P : Program} {G : Mem} {R : Reg} {ops : Array Oper} {n : Nat} {K : Env → Mm → Prop} {Q : Exit → Env → Mm → Prop} {rest : List Oper} {E : Env} {M : Mm} {d : Nat} {ty : TypeId} {pos : String} {aft : Array Edge}
variable {T T' : TypeId} {x y : Operand}
theorem e_eqNil {e : TypeId} {v : Value} {B : Mem} {z k : Nat} {xs : List Value} (hv : Shows B z v k xs) (hT : P.underlying T = some (.slice e)) (hx : rd E x = some v) (hy : rd E y = some nilS) (hd : Nat.blt d n = true)
    (h : ∀ b : Bool, (b = true → k = 0) → OpsE P G R ops n K rest ((d, .bool b) :: E) M) : OpsE P G R ops n K (⟨some d, .binOp .eql T x y T', ty, pos, aft, none⟩ :: rest) E M := fun _ _ ha hM => by
  rcases hv with ⟨h0, _, oa, cap, rfl, _⟩ | ⟨b, o, cap, c, t, rfl, _⟩
  · exact st_eqNil hT (ha.rd hx) (ha.rd hy) (h _ (fun _ => h0) _ _ (ha.put hd _) hM)
  · exact st_eqNil hT (ha.rd hx) (ha.rd hy) (h _ (fun hb => by cases hb) _ _ (ha.put hd _) hM)
end
section
variable {P : Program} {G : Mem} {R : Reg} {ops : Array Oper} {K : Act → Mem → Prop} {rest : List Oper} {a : Act} {m : Mem} {d : Option Tmp} {ty : TypeId} {pos : String} {aft : Array Edge}
variable {T T' : TypeId} {x y : Operand}
end
section
variable {P : Program} {G : Mem} {R : Reg} {ops : Array Oper} {n : Nat} {K : Env → Mm → Prop} {rest : List Oper} {E : Env} {M : Mm} {d : Nat} {ty : TypeId} {pos : String} {aft : Array Edge}
variable {T T' : TypeId} {x y : Operand}
end
section
variable {P : Program} {G : Mem} {n : Nat}
end
end Go.Proofs.YtfldnikepdbgkaaDoor
