import Derived.Test.YtejejmhbhegneaaKW1
import Derived.ProofKit
import Derived.OpenShut
import Derived.Carry
import Derived.SizedLaws
import Derived.Test.YtejejmhbhegneaaRows
namespace Go.Proofs.Ytejejmhbhegneaa
open Go Go.RowKit
abbrev Ev := Nat × Nat
def ev2 (x : Ev) : Nat → Nat := fun j => if j = 0 then x.1 else x.2
def evC (x : Ev) : List Value := [ii x.1, ii x.2]
theorem evC_len (x : Ev) : (evC x).length = 2 := rfl
theorem evC_arr (x : Ev) : (evC x).toArray = arr .i64 2 (ev2 x) := rfl
def hit (who tok : Int) (x : Ev) : Bool := decide ((x.2 : Int) = tok) && (decide (who < 0) || decide ((x.1 : Int) = who))
def hap (l : List Ev) (who tok : Int) : Bool := l.any (hit who tok)
theorem hap_none {l : List Ev} {who tok : Int} (h : ∀ j (hj : j < l.length), hit who tok l[j] = false) : hap l who tok = false := by
  rw [hap, List.any_eq_false]
  intro x hx
  obtain ⟨j, hj, rfl⟩ := List.getElem_of_mem hx
  rw [h j hj]; decide
theorem hap_hit {l : List Ev} {who tok : Int} {i : Nat} (hi : i < l.length) (h : hit who tok l[i] = true) : hap l who tok = true := by
  rw [hap, List.any_eq_true]
  exact ⟨_, List.getElem_mem hi, h⟩
theorem ev_at {l : List Ev} {i : Nat} (h : i < l.length) : ((l.flatMap evC).drop (i * 2)).take 2 = evC l[i] := flatMap_at evC_len l i h
theorem ev_len (l : List Ev) : (l.flatMap evC).length = l.length * 2 := flatMap_len evC_len l
abbrev iv (z : Int) : Value := .int .i64 z
def ShowsLI (B : Mem) (vs : List Value) (ls : List (List Int)) : Prop := vs.length = ls.length ∧ ∀ i, i < ls.length → Shows B 1 (vs.getD i undef) (ls.getD i []).length ((ls.getD i []).map iv)
theorem iv_at {l : List Int} {i : Nat} (h : i < l.length) : (l.map iv)[i]? = some (iv (l.getD i 0)) := by
  rw [List.getElem?_map, List.getElem?_eq_getElem h, List.getD_eq_getElem?_getD, List.getElem?_eq_getElem h]; rfl
def wrong (x : Int) : Bool := decide (x < 1) || decide (7 < x)
def first1 : List (List Int) → Nat
  | [] => 0
  | t :: r => if 6 < t.length then 1 else if t.any wrong then 2 else first1 r
theorem first1_none {ls : List (List Int)} (h : ∀ j, j < ls.length → (ls.getD j []).length ≤ 6 ∧ (ls.getD j []).any wrong = false) : first1 ls = 0 := by
  induction ls with
  | nil => rfl
  | cons t r ih =>
    have h0 := h 0 (by simp)
    simp at h0
    rw [first1, if_neg (by omega)]
    have : t.any wrong = false := by simpa using h0.2
    rw [this, if_neg (by decide)]
    exact ih fun j hj => by simpa using h (j + 1) (by simpa using hj)
theorem first1_at : ∀ {ls : List (List Int)} {i : Nat}, i < ls.length → (∀ j, j < i → (ls.getD j []).length ≤ 6 ∧ (ls.getD j []).any wrong = false) → first1 ls = first1 (ls.getD i [] :: ls.drop (i + 1))
  | t :: r, 0, _, _ => rfl
  | t :: r, i + 1, hi, h => by
    have h0 := h 0 (by omega)
    simp at h0
    have : t.any wrong = false := by simpa using h0.2
    rw [first1, if_neg (by omega), this, if_neg (by decide)]
    exact (first1_at (by simpa using hi) fun j hj => by simpa using h (j + 1) (by omega))
theorem any_none {l : List Int} (h : ∀ j, j < l.length → wrong (l.getD j 0) = false) : l.any wrong = false := by
  rw [List.any_eq_false]
  intro x hx
  obtain ⟨j, hj, rfl⟩ := List.getElem_of_mem hx
  have := h j hj
  rw [List.getD_eq_getElem?_getD, List.getElem?_eq_getElem hj] at this
  simp at this
  simp [this]
theorem any_at {l : List Int} {j : Nat} (hj : j < l.length) (h : wrong (l.getD j 0) = true) : l.any wrong = true := by
  rw [List.any_eq_true]
  refine ⟨_, List.getElem_mem hj, ?_⟩
  rw [List.getD_eq_getElem?_getD, List.getElem?_eq_getElem hj] at h
  exact h
def mown (who : Int) : Nat := if who = 1 then 4 else 5
def mfre (who : Int) : Nat := if who = 1 then 5 else 4
def mlock (l : List Ev) (who : Int) : Bool := !(hap l (-1) 7 && !(hap l who 1)) && ((!(hap l (-1) (mown who)) || hap l (-1) 3) && (!(hap l (-1) 6) || hap l (-1) (mfre who)))
def locksE (es : List Ev) : Bool := hap es (-1) 3 || hap es (-1) 4 || hap es (-1) 5 || hap es (-1) 6 || hap es (-1) 7
def okPre (es : List Ev) (e : Ev) : Bool := !(decide (2 < (e.2 : Int)) || hap es e.1 e.2)
def okT (es : List Ev) (w y : Nat) : Bool :=
  if y = 0 then (!(locksE es) || mlock es w)
  else if y = 1 then !(hap es w 1)
  else if y = 2 then (!(hap es w 2) && (!(locksE es) || mlock es w))
  else if y = 3 then ((hap es 0 1 && hap es 1 1) && !(hap es (-1) y))
  else if y = 4 then ((hap es 0 1 && hap es 1 2) && !(hap es (-1) y))
  else if y = 5 then ((hap es 0 2 && hap es 1 1) && !(hap es (-1) y))
  else if y = 6 then ((hap es 0 2 && hap es 1 2) && !(hap es (-1) y))
  else true
def okTurn (es : List Ev) (e : Ev) : Bool := okT es e.1 e.2
def whoT (late : Bool) (i : Nat) : Nat := if late then (i + 1) % 2 else i % 2
def evL (late : Bool) (q0 q1 : List Nat) (us : List (List Nat)) : List (List Ev) := q0.map (fun x => (0, x)) :: q1.map (fun x => (1, x)) :: us.zipIdx.map (fun p => (p.1 ++ [0]).map fun x => (whoT late p.2, x))
def uptoE (L : List (List Ev)) (i j : Nat) : List Ev := (L.take i).flatten ++ (L.getD i []).take j
def okAt (L : List (List Ev)) (i j : Nat) : Bool := (if i < 2 then okPre else okTurn) (uptoE L i j) ((L.getD i []).getD j (0, 0))
def allOk (L : List (List Ev)) : Bool := (List.range L.length).all fun i => (List.range (L.getD i []).length).all fun j => okAt L i j
theorem allOk_true {L : List (List Ev)} (h : ∀ i j, i < L.length → j < (L.getD i []).length → okAt L i j = true) : allOk L = true := by
  rw [allOk, List.all_eq_true]
  intro i hi
  rw [List.all_eq_true]
  intro j hj
  exact h i j (by simpa using hi) (by simpa using hj)
theorem allOk_false {L : List (List Ev)} {i j : Nat} (hi : i < L.length) (hj : j < (L.getD i []).length) (h : okAt L i j = false) : allOk L = false := by
  cases e : allOk L with
  | false => rfl
  | true =>
    rw [allOk, List.all_eq_true] at e
    have := e i (by simpa using hi)
    rw [List.all_eq_true] at this
    rw [this j (by simpa using hj)] at h
    cases h
theorem uptoE_zero (L : List (List Ev)) : uptoE L 0 0 = [] := by simp [uptoE]
theorem uptoE_next {L : List (List Ev)} {i j : Nat} (hj : j < (L.getD i []).length) : uptoE L i (j + 1) = uptoE L i j ++ [(L.getD i []).getD j (0, 0)] := by
  unfold uptoE
  rw [List.take_add_one, List.append_assoc, List.getD_eq_getElem?_getD (i := j), List.getElem?_eq_getElem hj]; rfl
theorem uptoE_row {L : List (List Ev)} {i : Nat} (hi : i < L.length) : uptoE L i (L.getD i []).length = uptoE L (i + 1) 0 := by
  unfold uptoE
  rw [List.take_length, List.take_zero, List.append_nil, List.take_add_one, List.flatten_append, List.getD_eq_getElem?_getD, List.getElem?_eq_getElem hi]
  simp
theorem ev_push (es : List Ev) (e : Ev) : es.flatMap evC ++ evC e = (es ++ [e]).flatMap evC := by simp
abbrev ci (q : List Nat) : List Int := q.map fun x : Nat => (x : Int)
theorem ci_at {q : List Nat} {i : Nat} (h : i < q.length) : ((ci q).map iv)[i]? = some (ii (q.getD i 0)) := by
  rw [List.getElem?_map, List.getElem?_map, List.getElem?_eq_getElem h, List.getD_eq_getElem?_getD, List.getElem?_eq_getElem h]; rfl
theorem li_head {B : Mem} {v : Value} {vs : List Value} {q : List Nat} {ls : List (List Int)} (h : ShowsLI B (v :: vs) (ci q :: ls)) : Shows B 1 v q.length ((ci q).map iv) := by
  have h0 : Shows B 1 v (ci q).length ((ci q).map iv) := h.2 0 (by simp)
  rw [List.length_map] at h0; exact h0
theorem li_tail {B : Mem} {v : Value} {l : List Int} {vs : List Value} {ls : List (List Int)} (h : ShowsLI B (v :: vs) (l :: ls)) : ShowsLI B vs ls :=
  ⟨by have := h.1; simpa using this, fun i hi => by have := h.2 (i + 1) (by simpa using hi); exact this⟩
theorem li_at {B : Mem} {vs : List Value} {us : List (List Nat)} (h : ShowsLI B vs (us.map ci)) {i : Nat} (hi : i < us.length) : Shows B 1 (vs.getD i undef) (us.getD i []).length ((ci (us.getD i [])).map iv) := by
  have h0 := h.2 i (by simpa using hi)
  have e : (us.map ci).getD i [] = ci (us.getD i []) := by
    simp [List.getD_eq_getElem?_getD, hi]
  rw [e, List.length_map] at h0; exact h0
theorem li_one {B : Mem} {vs : List Value} {ls : List (List Int)} (h : ShowsLI B vs ls) : ∀ u ∈ vs, u.oneCell' = true := fun u hu => by
  obtain ⟨i, hi, rfl⟩ := List.getElem_of_mem hu
  have h0 := h.2 i (by rw [← h.1]; exact hi)
  rw [List.getD_eq_getElem?_getD, List.getElem?_eq_getElem hi] at h0
  rcases h0 with ⟨_, _, oa, c, e, _⟩ | ⟨b, o, c, cs, t, e, _⟩ <;> (simp only [Option.getD_some] at e; rw [e]; rfl)
theorem li_mono {B B' : Mem} {vs : List Value} {ls : List (List Int)} (h : ShowsLI B vs ls) (hs : ∀ x ∈ B, x ∈ B') : ShowsLI B' vs ls := ⟨h.1, fun i hi => (h.2 i hi).mono hs⟩
def qq (q0 q1 : List Nat) (a : Nat) : List Nat := if a = 0 then q0 else q1
def vq (v0 v1 : Value) (a : Nat) : Value := if a = 0 then v0 else v1
theorem pre_cell {b : Value} {c d v0 v1 e : Value} {a : Nat} (h : a < 2) : (cells 6 [pV b, pV c, pV d, pV v0, pV v1, pV e])[3 + a]? = some (vq v0 v1 a) := by
  have : a = 0 ∨ a = 1 := by omega
  rcases this with rfl | rfl <;> rfl
theorem evL_pre {late : Bool} {q0 q1 : List Nat} {us : List (List Nat)} {a : Nat} (h : a < 2) : (evL late q0 q1 us).getD a [] = (qq q0 q1 a).map (fun x => (a, x)) := by
  have : a = 0 ∨ a = 1 := by omega
  rcases this with rfl | rfl <;> rfl
theorem evL_turn {late : Bool} {q0 q1 : List Nat} {us : List (List Nat)} {i : Nat} (h : i < us.length) : (evL late q0 q1 us).getD (2 + i) [] = (us.getD i [] ++ [0]).map (fun x => (whoT late i, x)) := by
  rw [show 2 + i = i + 2 by omega]
  show (us.zipIdx.map (fun p => (p.1 ++ [0]).map fun x => (whoT late p.2, x))).getD i [] = _
  simp [List.getD_eq_getElem?_getD, h]
theorem evL_len {late : Bool} {q0 q1 : List Nat} {us : List (List Nat)} : (evL late q0 q1 us).length = 2 + us.length := by
  simp [evL]; omega
theorem map_at {a j : Nat} {q : List Nat} (h : j < q.length) : (q.map (fun x => (a, x))).getD j (0, 0) = (a, q.getD j 0) := by
  simp [List.getD_eq_getElem?_getD, h]
def fin3 (L : List (List Ev)) : Nat := if allOk L then 0 else 3
theorem fin3_bad {L : List (List Ev)} {i j : Nat} (hi : i < L.length) (hj : j < (L.getD i []).length) (h : okAt L i j = false) : fin3 L = 3 := by
  rw [fin3, allOk_false hi hj h]; rfl
theorem fin3_ok {L : List (List Ev)} (h : ∀ i j, i < L.length → j < (L.getD i []).length → okAt L i j = true) : fin3 L = 0 := by
  rw [fin3, allOk_true h]; rfl
theorem okAt_pre {L : List (List Ev)} {a j x : Nat} (ha : a < 2) (he : (L.getD a []).getD j (0, 0) = (a, x)) : okAt L a j = !(decide (2 < (x : Int)) || hap (uptoE L a j) a x) := by
  rw [okAt, if_pos ha, he]; rfl
theorem okAt_turn {L : List (List Ev)} {i j w x : Nat} (he : (L.getD (2 + i) []).getD j (0, 0) = (w, x)) : okAt L (2 + i) j = okT (uptoE L (2 + i) j) w x := by
  rw [okAt, if_neg (by omega), he]; rfl
theorem uptoE_le {L : List (List Ev)} (h : ∀ r ∈ L, r.length ≤ 7) (i j : Nat) : (uptoE L i j).length ≤ 7 * i + 7 := by
  have key : ∀ (L : List (List Ev)) (i : Nat), (∀ r ∈ L, r.length ≤ 7) → ((L.take i).flatten).length ≤ 7 * i := by
    intro L
    induction L with
    | nil => intro i _; simp
    | cons r L ih =>
      intro i hr
      cases i with
      | zero => simp
      | succ i =>
        have h1 := ih i fun x hx => hr x (by simp [hx])
        have h2 := hr r (by simp)
        simp only [List.take_succ_cons, List.flatten_cons, List.length_append]
        omega
  have h1 := key L i h
  have h2 : ((L.getD i []).take j).length ≤ 7 := by
    rw [List.length_take]
    by_cases hi : i < L.length
    · have := h (L.getD i []) (by rw [List.getD_eq_getElem?_getD, List.getElem?_eq_getElem hi]; exact List.getElem_mem hi)
      omega
    · simp [List.getD_eq_getElem?_getD, hi]
  unfold uptoE
  rw [List.length_append]; omega
theorem evL_rows {late : Bool} {q0 q1 : List Nat} {us : List (List Nat)} (h0 : q0.length ≤ 6) (h1 : q1.length ≤ 6) (hu : ∀ u ∈ us, u.length ≤ 6) : ∀ r ∈ evL late q0 q1 us, r.length ≤ 7 := fun r hr => by
  rw [evL, List.mem_cons, List.mem_cons] at hr
  rcases hr with rfl | rfl | hr
  · simp; omega
  · simp; omega
  · obtain ⟨⟨u, k⟩, hp, rfl⟩ := List.mem_map.1 hr
    have : u ∈ us := by
      have := List.mem_zipIdx' hp
      rw [this.2]; exact List.getElem_mem _
    have := hu u this
    simp; omega
theorem ev_shows (r : Nat) (e : TypeId) (x : Ev) : Shows [⟨r, arr .i64 2 (ev2 x), e⟩] 2 (.slice (some ⟨r, 0, none⟩) 1 1) 1 (evC x) := shows_new (arr .i64 2 (ev2 x)) e rfl
theorem ev_one (x : Ev) : ∀ u ∈ evC x, u.oneCell' = true := fun u hu => by
  simp [evC] at hu
  rcases hu with rfl | rfl <;> rfl
theorem iv_one {l : List Int} : ∀ u ∈ l.map iv, u.oneCell' = true := fun u hu => by
  obtain ⟨n, _, rfl⟩ := List.mem_map.1 hu; rfl
theorem tok_at {u : List Nat} {p : Nat} (h : p < u.length + 1) : (([] ++ (ci u).map iv) ++ [ii 0])[p]? = some (ii ((u ++ [0]).getD p 0)) := by
  have e : ([] ++ (ci u).map iv) ++ [ii 0] = (ci (u ++ [0])).map iv := by simp [ci]
  rw [e]
  exact ci_at (by simpa using h)
theorem pre_shows {G : Mem} {v0 v1 : Value} {q0 q1 : List Nat} (h0 : Shows G 1 v0 q0.length ((ci q0).map iv)) (h1 : Shows G 1 v1 q1.length ((ci q1).map iv)) : ∀ a, a < 2 → Shows G 1 (vq v0 v1 a) (qq q0 q1 a).length ((ci (qq q0 q1 a)).map iv) := fun a ha => by
  have : a = 0 ∨ a = 1 := by omega
  rcases this with rfl | rfl
  · exact h0
  · exact h1
end Go.Proofs.Ytejejmhbhegneaa
namespace Go.Proofs.Ytejejmhbhegneaa
open Go.ChangeShapes Go.WideShapes Go.ChangeAt Go.RowKit
section
variable {H : Type} {enc : TypeId × Value → H} {P : Program} {n : Nat} {t e : TypeId} {k : IntKind}
end
end Go.Proofs.Ytejejmhbhegneaa
namespace Go.Proofs.Ytejejmhbhegneaa
open Go Go.ChangeShapes Go.WideShapes Go.ChangeAt Go.RowKit
section
variable {H : Type} {enc : TypeId × Value → H} {P : Program} {t e : TypeId}
theorem row_of_cell {w : World} {b o : Nat} {u : Value} (h : w.cell? ⟨b, o, none⟩ = some u) : ∃ cs et fr, w.heap[b]? = some (.cells cs et fr) := by
  unfold World.cell? at h
  cases hb : w.heap[b]? with
  | none => simp [hb] at h
  | some ob => cases ob with
    | cells cs t fr => exact ⟨cs, t, fr, rfl⟩
    | _ => simp [hb] at h
theorem str_list (s : ByteArray) : ∃ l : List Nat, (∀ x ∈ l, x < 256) ∧ s = bstr l := by
  refine ⟨s.data.toList.map UInt8.toNat, fun x hx => ?_, ?_⟩
  · obtain ⟨b, _, rfl⟩ := List.mem_map.1 hx
    exact b.toNat_lt
  · unfold bstr
    rw [List.map_map]
    have : s.data.toList.map (UInt8.ofNat ∘ UInt8.toNat) = s.data.toList := by
      conv => rhs; rw [← List.map_id s.data.toList]
      exact List.map_congr_left fun b _ => by simp
    rw [this]
end
end Go.Proofs.Ytejejmhbhegneaa
namespace Go.Proofs.Ytejejmhbhegneaa
open Go Go.ChangeShapes Go.WideShapes Go.ChangeAt Go.RowKit
section
variable {P : Program} {t : TypeId}
theorem open_cells {W : World} {b0 : Nat} {v : Value} {ts : List TypeId} {fs : Array Field} (hT : P.underlying t = some (.struct fs)) (hct : P.cellTypes P.depth t = some ts) (hsz : P.cellsOf t = ts.length) (hval : Value.okWide P W .any b0 t v) :
    ∃ cs, v = .agg cs ∧ cs.size = ts.length ∧ ∀ (i : Nat) u, ts[i]? = some u → ∃ x, cs[i]? = some x ∧ Cell.okWide P W .any b0 u x := by
  unfold Value.okWide at hval
  rw [hT] at hval
  obtain ⟨cs, rfl, h1, ts', h2, _, h3⟩ := hval
  have e : ts' = ts := Option.some.inj (h2.symm.trans hct)
  subst e
  refine ⟨cs, rfl, h1.trans hsz, fun i u hi => ?_⟩
  have hlt : i < ts'.length := (List.getElem?_eq_some_iff.1 hi).1
  have hcs : i < cs.size := by omega
  obtain ⟨u', h4, h5⟩ := h3 i cs[i] (Array.getElem?_eq_getElem hcs)
  rw [Nat.mod_eq_of_lt hlt, hi] at h4
  injection h4 with h4
  subst h4
  exact ⟨_, Array.getElem?_eq_getElem hcs, h5⟩
end
end Go.Proofs.Ytejejmhbhegneaa
namespace Go.Proofs.Ytejejmhbhegneaa
open Go Go.ChangeShapes Go.WideShapes Go.ChangeAt Go.RowKit
section
variable {H : Type} {enc : TypeId × Value → H} {P : Program} {t e : TypeId}
end
end Go.Proofs.Ytejejmhbhegneaa
namespace Go.Proofs.Ytejejmhbhegneaa
open Go Go.ChangeShapes Go.WideShapes Go.ChangeAt Go.RowKit
abbrev Dat := Nat
def repN (P : Program) (G : Mem) : Nat → TypeId → List Value → Prop
  | 0, _, _ => False
  | d + 1, t, cs => match P.underlying t with
    | some (.int k) => ∃ z, cs = [.int k z] ∧ (Lit.int k z).wf = true
    | some .bool => ∃ b, cs = [.bool b]
    | some .string => ∃ l : List Nat, cs = [sv l] ∧ (∀ b ∈ l, b < 256) ∧ l.length ≤ maxLen
    | some (.struct fs) => cs.length = P.cellsOf t ∧ ∀ (i : Nat) f, fs[i]? = some f → repN P G d f.type ((cs.drop f.offset).take (P.cellsOf f.type))
    | some (.array n e) => cs.length = P.cellsOf t ∧ ∀ i, i < n → repN P G d e ((cs.drop (i * P.cellsOf e)).take (P.cellsOf e))
    | some (.slice e) => ∃ v xs n, cs = [v] ∧ n ≤ maxLen ∧ Shows G (P.cellsOf e) v n xs ∧ ∀ i, i < n → repN P G d e ((xs.drop (i * P.cellsOf e)).take (P.cellsOf e))
    | _ => False
abbrev Rep (P : Program) (G : Mem) (t : TypeId) (cs : List Value) (d : Dat) : Prop := repN P G d t cs
section
variable {P : Program} {G : Mem}
theorem repN_mono {G' : Mem} (hs : ∀ x ∈ G, x ∈ G') : ∀ (d : Nat) {t : TypeId} {cs : List Value}, repN P G d t cs → repN P G' d t cs
  | 0, _, _, h => h
  | d + 1, t, cs, h => by
    unfold repN at h ⊢
    cases hu : P.underlying t with
    | none => rw [hu] at h; exact h
    | some td =>
      rw [hu] at h
      cases td with
      | struct fs => exact ⟨h.1, fun i f hf => repN_mono hs d (h.2 i f hf)⟩
      | array n e => exact ⟨h.1, fun i hi => repN_mono hs d (h.2 i hi)⟩
      | slice e =>
        obtain ⟨v, xs, n, h1, h2, h3, h4⟩ := h
        exact ⟨v, xs, n, h1, h2, h3.mono hs, fun i hi => repN_mono hs d (h4 i hi)⟩
      | _ => exact h
def closedT (P : Program) (L : List TypeId) : Bool := L.all fun t => match P.underlying t with
  | some (.int _) | some .bool | some .string => true
  | some (.struct fs) => fs.all fun f => L.contains f.type
  | some (.array _ e) => L.contains e
  | some (.slice e) => L.contains e && decide (0 < P.cellsOf e)
  | _ => false
theorem closed_at {L : List TypeId} (h : closedT P L = true) {t : TypeId} (ht : t ∈ L) : (match P.underlying t with
  | some (.int _) | some .bool | some .string => true
  | some (.struct fs) => fs.all fun f => L.contains f.type
  | some (.array _ e) => L.contains e
  | some (.slice e) => L.contains e && decide (0 < P.cellsOf e)
  | _ => false) = true := (List.all_eq_true.1 h) t ht
theorem rep_all {W : World} {n d : Nat} (T : Nat → TypeId) (C : Nat → List Value) (h : ∀ i, i < n → ∃ G, repN P G d (T i) (C i) ∧ MemR G W) : ∃ G : Mem, MemR G W ∧ ∀ i, i < n → repN P G d (T i) (C i) := by
  induction n with
  | zero => exact ⟨[], by simp [MemR], fun i hi => absurd hi (Nat.not_lt_zero i)⟩
  | succ n ih =>
    obtain ⟨G, h2, h3⟩ := ih fun i hi => h i (by omega)
    obtain ⟨G', h4, h5⟩ := h n (by omega)
    refine ⟨G ++ G', fun x hx => (List.mem_append.1 hx).elim (h2 x) (h5 x), fun i hi => ?_⟩
    by_cases hin : i < n
    · exact repN_mono (fun x hx => List.mem_append_left _ hx) d (h3 i hin)
    · obtain rfl : i = n := by omega
      exact repN_mono (fun x hx => List.mem_append_right _ hx) d h4
variable {H : Type} {enc : TypeId × Value → H}
theorem rep_trod {W : World} {base : Nat} {s : Nat → Bool} {held : Bool} {L : List TypeId} (hL : closedT P L = true) : ∀ (fuel : Nat) (t : TypeId) (cs : List Value) (x : DataW H × List MemPlace), t ∈ L → DataW.trod enc P W base s held fuel t cs = some x → ∃ G, repN P G fuel t cs ∧ MemR G W := by
  intro fuel
  induction fuel with
  | zero => intro t cs x _ h; simp [DataW.trod] at h
  | succ m ih =>
    intro t cs x ht h
    have hc := closed_at hL ht
    cases hu : P.underlying t with
    | none => rw [hu] at hc; cases hc
    | some td =>
      rw [hu] at hc
      cases td with
      | int k =>
        obtain ⟨z, rfl, _, hw⟩ := DataW.trod_int hu h
        exact ⟨[], by unfold repN; rw [hu]; exact ⟨z, rfl, hw⟩, by simp [MemR]⟩
      | bool =>
        obtain ⟨b, rfl, _⟩ := DataW.trod_bool hu h
        exact ⟨[], by unfold repN; rw [hu]; exact ⟨b, rfl⟩, by simp [MemR]⟩
      | string =>
        obtain ⟨b, rfl, _, hm⟩ := DataW.trod_string hu h
        obtain ⟨l, hl, rfl⟩ := str_list b
        exact ⟨[], by unfold repN; rw [hu]; exact ⟨l, rfl, hl, by rw [← bstr_size]; exact hm⟩, by simp [MemR]⟩
      | struct fs =>
        obtain ⟨xs, m', e1, _, hlen, hn, hel⟩ := DataW.trod_struct hu h
        have e1 : m = m' := by omega
        subst e1
        obtain ⟨G, h2, h3⟩ := rep_all (P := P) (W := W) (n := fs.size) (d := m) (fun i => (fs[i]?.map (·.type)).getD 0) (fun i => match fs[i]? with
          | some f => (cs.drop f.offset).take (P.cellsOf f.type)
          | none => []) fun i hi => by
            have hf : fs[i]? = some fs[i] := Array.getElem?_eq_getElem hi
            have := hel i fs[i] hf
            rw [List.getElem?_eq_getElem (by omega)] at this
            have hmem : fs[i].type ∈ L := by
              have := (Array.all_eq_true.1 hc) i hi
              simpa using this
            simp only [hf, Option.map_some, Option.getD_some]
            exact ih _ _ _ hmem this
        refine ⟨G, ?_, h2⟩
        unfold repN
        rw [hu]
        refine ⟨hlen, fun i f hf => ?_⟩
        have := h3 i (Array.getElem?_eq_some_iff.1 hf).1
        simp only [hf, Option.map_some, Option.getD_some] at this
        exact this
      | array n e =>
        obtain ⟨xs, m', e1, _, hlen, hn, hel⟩ := DataW.trod_array hu h
        have e1 : m = m' := by omega
        subst e1
        have hmem : e ∈ L := by simpa using hc
        obtain ⟨G, h2, h3⟩ := rep_all (P := P) (W := W) (n := n) (d := m) (fun _ => e) (fun i => (cs.drop (i * P.cellsOf e)).take (P.cellsOf e)) fun i hi => by
          have := hel i hi
          rw [List.getElem?_eq_getElem (by omega)] at this
          exact ih _ _ _ hmem this
        refine ⟨G, ?_, h2⟩
        unfold repN
        rw [hu]
        exact ⟨hlen, h3⟩
      | slice e =>
        have hc : (L.contains e && decide (0 < P.cellsOf e)) = true := hc
        rw [Bool.and_eq_true, decide_eq_true_eq] at hc
        have hmem : e ∈ L := by simpa using hc.1
        have hz := hc.2
        rcases DataW.trod_slice hu h with ⟨rfl, _⟩ | ⟨a, len, cap, elems, rest, m', e1, rfl, _, hb, hl, hm, hlen, hel, _, _⟩
        · exact ⟨[], by unfold repN; rw [hu]; exact ⟨_, [], 0, rfl, by simp [maxLen], .inl ⟨rfl, rfl, none, 0, rfl, fun _ => rfl⟩, fun i hi => absurd hi (Nat.not_lt_zero i)⟩, by simp [MemR]⟩
        have e1 : m = m' := by omega
        subst e1
        obtain ⟨z, hze⟩ : ∃ z, z = P.cellsOf e := ⟨_, rfl⟩
        rw [← hze] at hz hel
        have hE : ∀ i, i < len → ∃ ci y, W.cells? base (a.add (i * z)) z = some ci ∧ DataW.trod enc P W base s held m e ci = some y := fun i hi => by
          have := hel i hi
          rw [List.getElem?_eq_getElem (by omega)] at this
          cases hcc : W.cells? base (a.add (i * z)) z with
          | none => rw [hcc] at this; cases this
          | some ci => rw [hcc] at this; exact ⟨ci, _, rfl, this⟩
        by_cases h0 : len = 0
        · subst h0
          exact ⟨[], by unfold repN; rw [hu]; exact ⟨_, [], 0, rfl, by simp [maxLen], .inl ⟨rfl, rfl, some a, cap, rfl, fun h => by cases h⟩, fun i hi => absurd hi (Nat.not_lt_zero i)⟩, by simp [MemR]⟩
        obtain ⟨c0, y0, hc0, _⟩ := hE 0 (by omega)
        obtain ⟨b, off, spot⟩ := a
        have hg0 := (World.cells?_some hc0).2.2 0 hz
        have hl0 := (World.cells?_some hc0).2.1
        rw [List.getElem?_eq_getElem (by omega)] at hg0
        have hspot : spot = none := by simpa [Addr.add] using World.cell?_spot hg0
        subst hspot
        obtain ⟨cs0, et, fr, hbk⟩ := row_of_cell (b := b) (o := off) (by simpa [Addr.add] using hg0)
        have hcl : ∀ o, W.cell? ⟨b, o, none⟩ = cs0[o]? := fun o => by simp [World.cell?, hbk]
        have hadd : ∀ i r, (Addr.add (Addr.add ⟨b, off, none⟩ (i * z)) r) = ⟨b, off + (i * z + r), none⟩ := fun i r => by
          rw [Go.WideShapes.add_plain, Go.WideShapes.add_plain, Nat.add_assoc]
        have hcell : ∀ i, i < len → ∀ ci, W.cells? base (Addr.add ⟨b, off, none⟩ (i * z)) z = some ci → ∀ r, r < z → cs0[off + (i * z + r)]? = ci[r]? := fun i _ ci hci r hr => by
          rw [← hcl, ← hadd i r]
          exact (World.cells?_some hci).2.2 r hr
        have hbound : off + len * z ≤ cs0.size := by
          obtain ⟨ci, y, hci, _⟩ := hE (len - 1) (by omega)
          have h1 := hcell (len - 1) (by omega) ci hci (z - 1) (by omega)
          rw [List.getElem?_eq_getElem (by have := (World.cells?_some hci).2.1; omega)] at h1
          have h2 := (Array.getElem?_eq_some_iff.1 h1).1
          have h3 : (len - 1) * z + z = len * z := by rw [← Nat.succ_mul]; congr 1; omega
          omega
        obtain ⟨xs, hxs⟩ : ∃ xs, xs = (cs0.toList.drop off).take (len * z) := ⟨_, rfl⟩
        have hxl : xs.length = len * z := by rw [hxs]; simp; omega
        have hxj : ∀ j, j < len * z → xs[j]? = cs0[off + j]? := fun j hj => by rw [hxs, List.getElem?_take_of_lt hj, List.getElem?_drop]; simp
        obtain ⟨G, h2, h3⟩ := rep_all (P := P) (W := W) (n := len) (d := m) (fun _ => e) (fun i => (xs.drop (i * z)).take z) fun i hi => by
          obtain ⟨ci, y, hci, hy⟩ := hE i hi
          have hcl2 := (World.cells?_some hci).2.1
          have hle : i * z + z ≤ len * z := by rw [← Nat.succ_mul]; exact Nat.mul_le_mul_right _ hi
          have : (xs.drop (i * z)).take z = ci := by
            apply List.ext_getElem?
            intro r
            by_cases hr : r < z
            · rw [List.getElem?_take_of_lt hr, List.getElem?_drop, hxj _ (by omega)]
              exact hcell i hi ci hci r hr
            · rw [List.getElem?_eq_none (by rw [List.length_take]; omega), List.getElem?_eq_none (by omega)]
          rw [this]
          exact ih _ _ _ hmem hy
        refine ⟨⟨b, cs0, et⟩ :: G, ?_, fun x hx => ?_⟩
        · unfold repN
          rw [hu]
          refine ⟨_, xs, len, rfl, by omega, .inr ⟨b, off, cap, cs0, et, rfl, by omega, List.mem_cons_self, by rw [← hze]; exact hxl, by rw [← hze]; exact hbound, fun j u hj => ?_⟩, fun i hi => ?_⟩
          · rw [← hxj j (by rw [← hxl]; exact (List.getElem?_eq_some_iff.1 hj).1)]; exact hj
          · rw [← hze]
            exact repN_mono (fun x hx => List.mem_cons_of_mem _ hx) m (h3 i hi)
        · rcases List.mem_cons.1 hx with rfl | hx
          · exact ⟨(Array.getElem?_eq_some_iff.1 hbk).1, fun o _ => hcl o⟩
          · exact h2 x hx
      | _ => cases hc
theorem rep_open {W : World} {base : Nat} {s : Nat → Bool} {held : Bool} {t : TypeId} {v : Value} {d : DataW H} {ps : List MemPlace} (L : List TypeId) (hL : closedT P L = true) (ht : t ∈ L) (hd : DataW.Trod enc P W base s held t v d ps) : ∃ x G, Rep P G t v.cells.toList x ∧ MemR G W := by
  obtain ⟨fuel, hf⟩ := hd
  exact ⟨fuel, rep_trod hL fuel t _ _ ht hf⟩
end
end Go.Proofs.Ytejejmhbhegneaa
namespace Go.Proofs.Ytejejmhbhegneaa
open Go Go.ChangeShapes Go.WideShapes Go.ChangeAt Go.RowKit
structure RawT where
  a : Int
  b : Int
  c : Int
  t : List Nat
section
variable {P : Program} {G : Mem}
theorem rep_int {t : TypeId} {cs : List Value} {d : Dat} {k : IntKind} (hu : P.underlying t = some (.int k)) (h : Rep P G t cs d) : ∃ z, cs = [.int k z] ∧ (Lit.int k z).wf = true := by
  cases d with
  | zero => exact h.elim
  | succ d => unfold Rep repN at h; rw [hu] at h; exact h
theorem rep_bool {t : TypeId} {cs : List Value} {d : Dat} (hu : P.underlying t = some .bool) (h : Rep P G t cs d) : ∃ b, cs = [.bool b] := by
  cases d with
  | zero => exact h.elim
  | succ d => unfold Rep repN at h; rw [hu] at h; exact h
theorem rep_str {t : TypeId} {cs : List Value} {d : Dat} (hu : P.underlying t = some .string) (h : Rep P G t cs d) : ∃ l : List Nat, cs = [sv l] ∧ (∀ b ∈ l, b < 256) ∧ l.length ≤ maxLen := by
  cases d with
  | zero => exact h.elim
  | succ d => unfold Rep repN at h; rw [hu] at h; exact h
theorem rep_struct {t : TypeId} {cs : List Value} {d : Dat} {fs : Array Field} (hu : P.underlying t = some (.struct fs)) (h : Rep P G t cs d) : ∃ d', cs.length = P.cellsOf t ∧ ∀ (i : Nat) f, fs[i]? = some f → Rep P G f.type ((cs.drop f.offset).take (P.cellsOf f.type)) d' := by
  cases d with
  | zero => exact h.elim
  | succ d => unfold Rep repN at h; rw [hu] at h; exact ⟨d, h⟩
theorem rep_slice {t e : TypeId} {cs : List Value} {d : Dat} (hu : P.underlying t = some (.slice e)) (h : Rep P G t cs d) : ∃ d' v xs n, cs = [v] ∧ n ≤ maxLen ∧ Shows G (P.cellsOf e) v n xs ∧ ∀ i, i < n → Rep P G e ((xs.drop (i * P.cellsOf e)).take (P.cellsOf e)) d' := by
  cases d with
  | zero => exact h.elim
  | succ d => unfold Rep repN at h; rw [hu] at h; exact ⟨d, h⟩
theorem rep_elems {α : Type} {e : TypeId} {z n : Nat} {d : Dat} (C : α → List Value) (Q : α → Prop) {xs : List Value} (hx : xs.length = n * z) (hE : ∀ cs d, Rep P G e cs d → ∃ x, cs = C x ∧ Q x)
    (he : ∀ i, i < n → Rep P G e ((xs.drop (i * z)).take z) d) : ∃ rs : List α, rs.length = n ∧ xs = rs.flatMap C ∧ ∀ r ∈ rs, Q r := by
  induction n generalizing xs with
  | zero => exact ⟨[], rfl, by simpa using hx, by simp⟩
  | succ m ih =>
    have h0 := he 0 (by omega)
    rw [Nat.zero_mul, List.drop_zero] at h0
    obtain ⟨r, hr, hq⟩ := hE _ _ h0
    obtain ⟨rs, h1, h2, h3⟩ := ih (xs := xs.drop z) (by rw [List.length_drop, hx, Nat.succ_mul]; omega) fun i hi => by
      have := he (i + 1) (by omega)
      rw [List.drop_drop, show z + i * z = (i + 1) * z by rw [Nat.succ_mul]; omega]
      exact this
    refine ⟨r :: rs, by simp [h1], ?_, fun x hx' => ?_⟩
    · rw [List.flatMap_cons, ← h2, ← hr, List.take_append_drop]
    · rcases List.mem_cons.1 hx' with rfl | hx'
      · exact hq
      · exact h3 x hx'
end
section
variable {P : Program} {H : Type} {enc : TypeId × Value → H}
end
end Go.Proofs.Ytejejmhbhegneaa
namespace Go.Proofs.Ytejejmhbhegneaa
open Go Go.ChangeShapes Go.WideShapes Go.ChangeAt Go.RowKit
section
variable {P : Program} {G : Mem}
theorem rep_array {t e : TypeId} {n : Nat} {cs : List Value} {d : Dat} (hu : P.underlying t = some (.array n e)) (h : Rep P G t cs d) : ∃ d', cs.length = P.cellsOf t ∧ ∀ i, i < n → Rep P G e ((cs.drop (i * P.cellsOf e)).take (P.cellsOf e)) d' := by
  cases d with
  | zero => exact h.elim
  | succ d => unfold Rep repN at h; rw [hu] at h; exact ⟨d, h⟩
theorem flat_one {α : Type} (f : α → Value) : ∀ l : List α, l.flatMap (fun z => [f z]) = l.map f
  | [] => rfl
  | x :: l => by rw [List.flatMap_cons, flat_one f l]; rfl
theorem rep_ints {t e : TypeId} {cs : List Value} {d : Dat} (hu : P.underlying t = some (.slice e)) (he : P.underlying e = some (.int .i64)) (hc : P.cellsOf e = 1) (h : Rep P G t cs d) : ∃ v, ∃ l : List Int, cs = [v] ∧ Shows G 1 v l.length (l.map iv) ∧ l.length ≤ maxLen ∧ ∀ z ∈ l, (Lit.int .i64 z).wf = true := by
  obtain ⟨d', v, xs, n, rfl, hm, hv, hE⟩ := rep_slice hu h
  rw [hc] at hv hE
  obtain ⟨l, h1, rfl, h3⟩ := rep_elems (fun z => [iv z]) (fun z => (Lit.int .i64 z).wf = true) hv.len (fun cs d h => by
    obtain ⟨z, h1, h2⟩ := rep_int he h
    exact ⟨z, h1, h2⟩) hE
  rw [← h1, flat_one] at hv
  exact ⟨v, l, rfl, hv, by omega, h3⟩
theorem rep_intss {t s e : TypeId} {cs : List Value} {d : Dat} (hu : P.underlying t = some (.slice s)) (hs : P.underlying s = some (.slice e)) (he : P.underlying e = some (.int .i64)) (hcs : P.cellsOf s = 1) (hc : P.cellsOf e = 1) (h : Rep P G t cs d) : ∃ v vs ls, cs = [v] ∧ Shows G 1 v vs.length vs ∧ ShowsLI G vs ls ∧ vs.length ≤ maxLen ∧ ∀ q ∈ ls, q.length ≤ maxLen := by
  obtain ⟨d', v, xs, n, rfl, hm, hv, hE⟩ := rep_slice hu h
  rw [hcs] at hv hE
  obtain ⟨l, h1, rfl, h3⟩ := rep_elems (fun p : Value × List Int => [p.1]) (fun p => Shows G 1 p.1 p.2.length (p.2.map iv) ∧ p.2.length ≤ maxLen) hv.len (fun cs d h => by
    obtain ⟨w, q, h1, h2, h3, _⟩ := rep_ints hs he hc h
    exact ⟨(w, q), h1, h2, h3⟩) hE
  rw [flat_one (fun p : Value × List Int => p.1)] at hv
  refine ⟨v, l.map (·.1), l.map (·.2), rfl, by rw [List.length_map, h1]; exact hv, ⟨by simp, fun i hi => ?_⟩, by rw [List.length_map]; omega, fun q hq => by obtain ⟨x, hx, rfl⟩ := List.mem_map.1 hq; exact (h3 x hx).2⟩
  have hi' : i < l.length := by simpa using hi
  have := (h3 l[i] (List.getElem_mem hi')).1
  simpa [List.getD_eq_getElem?_getD, hi'] using this
theorem rep_pat {t ar sl ss e : TypeId} {cs : List Value} {d : Dat} {f0 f1 f2 f3 f4 : Field} (ht : P.underlying t = some (.struct #[f0, f1, f2, f3, f4])) (hc : P.cellsOf t = 6)
    (o0 : f0.offset = 0) (o1 : f1.offset = 1) (o2 : f2.offset = 2) (o3 : f3.offset = 3) (o4 : f4.offset = 5) (t2 : f2.type = sl) (t3 : f3.type = ar) (t4 : f4.type = ss) (u0 : P.underlying f0.type = some .string) (u1 : P.underlying f1.type = some .bool) (u2 : P.underlying sl = some (.slice e)) (u3 : P.underlying ar = some (.array 2 sl)) (u4 : P.underlying ss = some (.slice sl)) (u5 : P.underlying e = some (.int .i64))
    (c0 : P.cellsOf f0.type = 1) (c1 : P.cellsOf f1.type = 1) (c2 : P.cellsOf sl = 1) (c3 : P.cellsOf ar = 2) (c4 : P.cellsOf ss = 1) (c5 : P.cellsOf e = 1) (h : Rep P G t cs d) :
    ∃ (base : List Nat) (late : Bool) (vp v0 v1 vt : Value) (ps p0 p1 : List Int) (tvs : List Value) (ts : List (List Int)), cs = [sv base, .bool late, vp, v0, v1, vt] ∧ (∀ b ∈ base, b < 256) ∧ base.length ≤ maxLen ∧ (Shows G 1 vp ps.length (ps.map iv) ∧ ps.length ≤ maxLen) ∧ Shows G 1 vt tvs.length tvs ∧ (ShowsLI G (v0 :: v1 :: tvs) (p0 :: p1 :: ts) ∧ tvs.length ≤ maxLen ∧ ∀ q ∈ p0 :: p1 :: ts, q.length ≤ maxLen) := by
  obtain ⟨d', hl, he⟩ := rep_struct ht h
  rw [hc] at hl
  match cs, hl with
  | [w0, w1, w2, w3, w4, w5], _ =>
    have e0 := he 0 f0 rfl
    have e1 := he 1 f1 rfl
    have e2 := he 2 f2 rfl
    have e3 := he 3 f3 rfl
    have e4 := he 4 f4 rfl
    rw [o0, c0] at e0
    rw [o1, c1] at e1
    rw [o2, t2, c2] at e2
    rw [o3, t3, c3] at e3
    rw [o4, t4, c4] at e4
    obtain ⟨base, h0, hb, hm⟩ := rep_str u0 e0
    obtain ⟨late, h1⟩ := rep_bool u1 e1
    obtain ⟨vp, ps, h2, hp, hpm, _⟩ := rep_ints u2 u5 c5 e2
    obtain ⟨vt, tvs, ts, h4, hvt, hT, hTm, hTq⟩ := rep_intss u4 u2 u5 c2 c5 e4
    obtain ⟨d2, _, hee⟩ := rep_array u3 e3
    rw [c2] at hee
    obtain ⟨v0, p0, h5, hv0, hm0, _⟩ := rep_ints u2 u5 c5 (hee 0 (by decide))
    obtain ⟨v1, p1, h6, hv1, hm1, _⟩ := rep_ints u2 u5 c5 (hee 1 (by decide))
    simp at h0 h1 h2 h4 h5 h6
    refine ⟨base, late, vp, v0, v1, vt, ps, p0, p1, tvs, ts, by rw [h0, h1, h2, h4, h5, h6], hb, hm, ⟨hp, hpm⟩, hvt, ⟨by simp [hT.1], fun i hi => ?_⟩, hTm, fun q hq => ?_⟩
    case refine_2 =>
      rcases List.mem_cons.1 hq with rfl | hq
      · exact hm0
      rcases List.mem_cons.1 hq with rfl | hq
      · exact hm1
      · exact hTq q hq
    match i with
    | 0 => exact hv0
    | 1 => exact hv1
    | i + 2 => exact hT.2 i (by simpa using hi)
end
section
variable {P : Program} {H : Type} {enc : TypeId × Value → H}
theorem open_pat {W : World} {b0 bs : Nat} {s : Nat → Bool} {held : Bool} {t ar sl ss e : TypeId} {v : Value} {d : DataW H} {ms : List MemPlace} {f0 f1 f2 f3 f4 : Field} {cts : List TypeId} (L : List TypeId) (hL : closedT P L = true) (htL : t ∈ L) (ht : P.underlying t = some (.struct #[f0, f1, f2, f3, f4])) (hct : P.cellTypes P.depth t = some cts) (hcl : P.cellsOf t = cts.length) (hc : P.cellsOf t = 6)
    (o0 : f0.offset = 0) (o1 : f1.offset = 1) (o2 : f2.offset = 2) (o3 : f3.offset = 3) (o4 : f4.offset = 5) (t2 : f2.type = sl) (t3 : f3.type = ar) (t4 : f4.type = ss) (u0 : P.underlying f0.type = some .string) (u1 : P.underlying f1.type = some .bool) (u2 : P.underlying sl = some (.slice e)) (u3 : P.underlying ar = some (.array 2 sl)) (u4 : P.underlying ss = some (.slice sl)) (u5 : P.underlying e = some (.int .i64))
    (c0 : P.cellsOf f0.type = 1) (c1 : P.cellsOf f1.type = 1) (c2 : P.cellsOf sl = 1) (c3 : P.cellsOf ar = 2) (c4 : P.cellsOf ss = 1) (c5 : P.cellsOf e = 1) (hval : Value.okWide P W .any b0 t v) (hd : DataW.Trod enc P W bs s held t v d ms) :
    ∃ (G : Mem) (base : List Nat) (late : Bool) (vp v0 v1 vt : Value) (ps p0 p1 : List Int) (tvs : List Value) (ts : List (List Int)), v = .agg (cells 6 [pV (sv base), pV (.bool late), pV vp, pV v0, pV v1, pV vt]) ∧ MemR G W ∧ (∀ b ∈ base, b < 256) ∧ base.length ≤ maxLen ∧ (Shows G 1 vp ps.length (ps.map iv) ∧ ps.length ≤ maxLen) ∧ Shows G 1 vt tvs.length tvs ∧ (ShowsLI G (v0 :: v1 :: tvs) (p0 :: p1 :: ts) ∧ tvs.length ≤ maxLen ∧ ∀ q ∈ p0 :: p1 :: ts, q.length ≤ maxLen) := by
  obtain ⟨x, G, hx, hG⟩ := rep_open L hL htL hd
  obtain ⟨cs, rfl, _, _⟩ := open_cells ht hct hcl hval
  obtain ⟨base, late, vp, v0, v1, vt, ps, p0, p1, tvs, ts, h1, h2, h3, h4, h5, h6⟩ := rep_pat ht hc o0 o1 o2 o3 o4 t2 t3 t4 u0 u1 u2 u3 u4 u5 c0 c1 c2 c3 c4 c5 hx
  have e : cs = cells 6 [pV (sv base), pV (.bool late), pV vp, pV v0, pV v1, pV vt] := by
    apply Array.ext'
    have h1' : cs.toList = [sv base, .bool late, vp, v0, v1, vt] := h1
    rw [h1']; rfl
  exact ⟨G, base, late, vp, v0, v1, vt, ps, p0, p1, tvs, ts, by rw [e], hG, h2, h3, h4, h5, h6⟩
end
theorem wrong_no {l : List Int} (h : l.any wrong = false) : l = ci (l.map Int.toNat) := by
  rw [List.any_eq_false] at h
  unfold ci
  rw [List.map_map]
  conv => lhs; rw [← List.map_id l]
  refine List.map_congr_left fun x hx => ?_
  have := h x hx
  simp [wrong] at this
  show x = ((x.toNat : Nat) : Int)
  omega
theorem first1_zero : ∀ {ls : List (List Int)}, first1 ls = 0 → ∀ t ∈ ls, t.length ≤ 6 ∧ t.any wrong = false
  | t :: r, h, x, hx => by
    rw [first1] at h
    by_cases h6 : 6 < t.length
    · rw [if_pos h6] at h; cases h
    · rw [if_neg h6] at h
      cases hw : t.any wrong with
      | true => rw [hw, if_pos rfl] at h; cases h
      | false =>
        rw [hw, if_neg (by decide)] at h
        rcases List.mem_cons.1 hx with rfl | hx
        · exact ⟨by omega, hw⟩
        · exact first1_zero h x hx
def pfault (late : Bool) (p0 p1 : List Int) (ts : List (List Int)) : Nat :=
  if ts.length = 0 ∨ 5 < ts.length then 1 else if first1 (p0 :: p1 :: ts) = 0 then fin3 (evL late (p0.map Int.toNat) (p1.map Int.toNat) (ts.map fun t => t.map Int.toNat)) else first1 (p0 :: p1 :: ts)
end Go.Proofs.Ytejejmhbhegneaa
namespace Go.Proofs.Ytejejmhbhegneaa
open Go Go.RowKit
theorem hap_push (es : List Ev) (e : Ev) (who tok : Int) : hap (es ++ [e]) who tok = (hap es who tok || hit who tok e) := by simp [hap]
def stE (es : List Ev) (i : Nat) : Bool := if i < 6 then (decide (i % 3 ≠ 0) && hap es ((i / 3 : Nat) : Int) ((i % 3 : Nat) : Int)) else (decide (9 ≤ i) && hap es (-1) ((i - 6 : Nat) : Int))
abbrev kst (s : Nat → Bool) : Array Value := arrv 14 (fun i => .bool (s i))
theorem stE_nil (i : Nat) : stE [] i = false := by unfold stE; split <;> simp [hap]
theorem stE_key {es : List Ev} {w k : Nat} (hk : k = 1 ∨ k = 2) (hw : w < 2) : stE es (3 * w + k) = hap es (w : Int) (k : Int) := by
  have h1 : (3 * w + k) / 3 = w ∧ (3 * w + k) % 3 = k := by omega
  rw [stE, if_pos (by omega), h1.1, h1.2, decide_eq_true (by omega)]; rfl
theorem stE_been {es : List Ev} {t : Nat} (h3 : 3 ≤ t) : stE es (6 + t) = hap es (-1) (t : Int) := by
  rw [stE, if_neg (by omega), decide_eq_true (by omega), show 6 + t - 6 = t by omega]; rfl
theorem stE_push_key {es : List Ev} {w k : Nat} (hk : k = 1 ∨ k = 2) (hw : w < 2) (j : Nat) : stE (es ++ [(w, k)]) j = (stE es j || decide (j = 3 * w + k)) := by
  unfold stE
  by_cases h6 : j < 6
  · rw [if_pos h6, if_pos h6, hap_push]
    have e : hit ((j / 3 : Nat) : Int) ((j % 3 : Nat) : Int) (w, k) = decide (j = 3 * w + k) := by
      unfold hit
      rw [Bool.eq_iff_iff]
      simp only [Bool.and_eq_true, Bool.or_eq_true, decide_eq_true_eq]
      omega
    rw [e]
    by_cases h0 : j % 3 = 0
    · have h1 : ¬ j = 3 * w + k := by omega
      simp [h0, h1]
    · simp [h0]
  · rw [if_neg h6, if_neg h6, hap_push]
    have e : hit (-1) ((j - 6 : Nat) : Int) (w, k) = decide (k = j - 6) := by
      unfold hit
      rw [Bool.eq_iff_iff]
      simp only [Bool.and_eq_true, Bool.or_eq_true, decide_eq_true_eq]
      omega
    rw [e]
    have h1 : ¬ j = 3 * w + k := by omega
    by_cases h9 : 9 ≤ j
    · have h2 : ¬ k = j - 6 := by omega
      simp [h1, h2]
    · simp [h1, h9]
theorem stE_push_tok {es : List Ev} {w t : Nat} (h3 : 3 ≤ t) (h7 : t ≤ 7) (j : Nat) : stE (es ++ [(w, t)]) j = (stE es j || decide (j = 6 + t)) := by
  unfold stE
  by_cases h6 : j < 6
  · rw [if_pos h6, if_pos h6, hap_push]
    have e : hit ((j / 3 : Nat) : Int) ((j % 3 : Nat) : Int) (w, t) = false := by
      unfold hit
      rw [decide_eq_false (by show ¬ ((t : Int) = _); omega)]; rfl
    have h1 : ¬ j = 6 + t := by omega
    rw [e]; simp [h1]
  · rw [if_neg h6, if_neg h6, hap_push]
    have e : hit (-1) ((j - 6 : Nat) : Int) (w, t) = decide (j = 6 + t) := by
      unfold hit
      rw [Bool.eq_iff_iff]
      simp only [Bool.and_eq_true, Bool.or_eq_true, decide_eq_true_eq]
      omega
    rw [e]
    by_cases h9 : 9 ≤ j
    · simp [h9]
    · have h1 : ¬ j = 6 + t := by omega
      simp [h1, h9]
theorem stE_push_zero {es : List Ev} {w : Nat} (j : Nat) : stE (es ++ [(w, 0)]) j = stE es j := by
  unfold stE
  by_cases h6 : j < 6
  · rw [if_pos h6, if_pos h6, hap_push]
    by_cases h0 : j % 3 = 0
    · simp [h0]
    · have e : hit ((j / 3 : Nat) : Int) ((j % 3 : Nat) : Int) (w, 0) = false := by
        unfold hit
        rw [decide_eq_false (by show ¬ (((0 : Nat) : Int) = _); omega)]; rfl
      rw [e]; simp
  · rw [if_neg h6, if_neg h6, hap_push]
    by_cases h9 : 9 ≤ j
    · have e : hit (-1) ((j - 6 : Nat) : Int) (w, 0) = false := by
        unfold hit
        rw [decide_eq_false (by show ¬ (((0 : Nat) : Int) = _); omega)]; rfl
      rw [e]; simp
    · simp [h9]
theorem kst_zero {es : List Ev} {w : Nat} : kst (stE (es ++ [(w, 0)])) = kst (stE es) := arrv_congr fun j _ => by rw [stE_push_zero]
theorem kst_key {es : List Ev} {w k : Nat} (hk : k = 1 ∨ k = 2) (hw : w < 2) : arrv 14 (updv (fun i => .bool (stE es i)) (3 * w + k) (.bool true)) = kst (stE (es ++ [(w, k)])) := arrv_congr fun j _ => by
  rw [stE_push_key hk hw, updv]
  by_cases e : j = 3 * w + k
  · rw [if_pos e, decide_eq_true e, Bool.or_true]
  · rw [if_neg e, decide_eq_false e, Bool.or_false]
theorem kst_tok {es : List Ev} {w t : Nat} (h3 : 3 ≤ t) (h7 : t ≤ 7) : arrv 14 (updv (fun i => .bool (stE es i)) (6 + t) (.bool true)) = kst (stE (es ++ [(w, t)])) := arrv_congr fun j _ => by
  rw [stE_push_tok h3 h7, updv]
  by_cases e : j = 6 + t
  · rw [if_pos e, decide_eq_true e, Bool.or_true]
  · rw [if_neg e, decide_eq_false e, Bool.or_false]
def mlS (s : Nat → Bool) (w : Nat) : Bool := !(s 13 && !(s (3 * w + 1))) && (!(s (6 + mown w) && !(s 9)) && (!(s 12) || s (6 + mfre w)))
theorem mlS_stE {es : List Ev} {w : Nat} (hw : w < 2) : mlS (stE es) w = (!(locksE es) || mlock es w) := by
  have a13 : stE es 13 = hap es (-1) 7 := stE_been (es := es) (t := 7) (by decide)
  have a9 : stE es 9 = hap es (-1) 3 := stE_been (es := es) (t := 3) (by decide)
  have a12 : stE es 12 = hap es (-1) 6 := stE_been (es := es) (t := 6) (by decide)
  have a10 : stE es (6 + 4) = hap es (-1) 4 := stE_been (es := es) (t := 4) (by decide)
  have a11 : stE es (6 + 5) = hap es (-1) 5 := stE_been (es := es) (t := 5) (by decide)
  have hw2 : w = 0 ∨ w = 1 := by omega
  rcases hw2 with rfl | rfl
  · have ak : stE es (3 * 0 + 1) = hap es 0 1 := stE_key (es := es) (w := 0) (k := 1) (.inl rfl) (by decide)
    have m1 : mown ((0 : Nat) : Int) = 5 := rfl
    have m2 : mfre ((0 : Nat) : Int) = 4 := rfl
    rw [mlS, m1, m2, a13, a9, a12, a10, a11, ak, mlock, m1, m2, locksE]
    show _ = (!_ || (!(hap es (-1) 7 && !(hap es 0 1)) && ((!(hap es (-1) 5) || hap es (-1) 3) && (!(hap es (-1) 6) || hap es (-1) 4))))
    generalize hap es (-1) 7 = x7
    generalize hap es (-1) 3 = x3
    generalize hap es (-1) 4 = x4
    generalize hap es (-1) 5 = x5
    generalize hap es (-1) 6 = x6
    generalize hap es 0 1 = x1
    cases x7 <;> cases x3 <;> cases x4 <;> cases x5 <;> cases x6 <;> cases x1 <;> rfl
  · have ak : stE es (3 * 1 + 1) = hap es 1 1 := stE_key (es := es) (w := 1) (k := 1) (.inl rfl) (by decide)
    have m1 : mown ((1 : Nat) : Int) = 4 := rfl
    have m2 : mfre ((1 : Nat) : Int) = 5 := rfl
    rw [mlS, m1, m2, a13, a9, a12, a10, a11, ak, mlock, m1, m2, locksE]
    show _ = (!_ || (!(hap es (-1) 7 && !(hap es 1 1)) && ((!(hap es (-1) 4) || hap es (-1) 3) && (!(hap es (-1) 6) || hap es (-1) 5))))
    generalize hap es (-1) 7 = x7
    generalize hap es (-1) 3 = x3
    generalize hap es (-1) 4 = x4
    generalize hap es (-1) 5 = x5
    generalize hap es (-1) 6 = x6
    generalize hap es 1 1 = x1
    cases x7 <;> cases x3 <;> cases x4 <;> cases x5 <;> cases x6 <;> cases x1 <;> rfl
def ltr (t : Nat) : Nat → Nat := fun j => if t = 3 then 1 else if t = 4 then (if j = 0 then 1 else 2) else if t = 5 then (if j = 0 then 2 else 1) else 2
theorem ltr_in (t j : Nat) : ltr t j = 1 ∨ ltr t j = 2 := by
  unfold ltr
  repeat' split
  all_goals omega
def mixB (s : Nat → Bool) (t : Nat) : Bool := s (6 + t) || !(s (ltr t 0)) || !(s (3 + ltr t 1))
theorem mixB_stE {es : List Ev} {w t : Nat} (h3 : 3 ≤ t) (h6 : t ≤ 6) : mixB (stE es) t = !(okT es w t) := by
  have k0 : stE es (ltr t 0) = hap es 0 (ltr t 0 : Nat) := by
    have := stE_key (es := es) (w := 0) (ltr_in t 0) (by decide)
    simpa using this
  have k1 : stE es (3 + ltr t 1) = hap es 1 (ltr t 1 : Nat) := by
    have := stE_key (es := es) (w := 1) (ltr_in t 1) (by decide)
    simpa using this
  rw [mixB, stE_been h3, k0, k1]
  have ht : t = 3 ∨ t = 4 ∨ t = 5 ∨ t = 6 := by omega
  have b3 : ∀ a b c : Bool, (a || !b || !c) = !((b && c) && !a) := by decide
  rcases ht with rfl | rfl | rfl | rfl
  · exact b3 _ _ _
  · exact b3 _ _ _
  · exact b3 _ _ _
  · exact b3 _ _ _
theorem okT_one (es : List Ev) (w : Nat) : okT es w 1 = !(hap es w 1) := rfl
theorem okT_two {es : List Ev} {w : Nat} (hw : w < 2) : okT es w 2 = (mlS (stE es) w && !(hap es w 2)) := by
  rw [mlS_stE hw]
  show (!(hap es w 2) && (!(locksE es) || mlock es w)) = _
  rw [Bool.and_comm]
theorem okT_zero {es : List Ev} {w : Nat} (hw : w < 2) : okT es w 0 = mlS (stE es) w := by rw [mlS_stE hw]; rfl
theorem okPre_tok {es : List Ev} {a x : Nat} : okPre es (a, x) = (decide (x ≤ 2) && !(hap es a x)) := by
  unfold okPre
  by_cases h : x ≤ 2
  · have h2 : decide (2 < ((x : Nat) : Int)) = false := decide_eq_false (by omega)
    show (!(decide (2 < ((x : Nat) : Int)) || _)) = _
    rw [h2, decide_eq_true h]; rfl
  · have h2 : decide (2 < ((x : Nat) : Int)) = true := decide_eq_true (by omega)
    show (!(decide (2 < ((x : Nat) : Int)) || _)) = _
    rw [h2, decide_eq_false h]; rfl
theorem first1_toks {ls : List (List Nat)} (h : first1 (ls.map ci) = 0) : ∀ q ∈ ls, q.length ≤ 6 ∧ ∀ x ∈ q, 1 ≤ x ∧ x ≤ 7 := fun q hq => by
  obtain ⟨h1, h2⟩ := first1_zero h (ci q) (List.mem_map.2 ⟨q, hq, rfl⟩)
  refine ⟨by simpa using h1, fun x hx => ?_⟩
  rw [List.any_eq_false] at h2
  have := h2 (x : Int) (List.mem_map.2 ⟨x, hx, rfl⟩)
  simp [wrong] at this
  omega
theorem first1_split (p0 p1 : List Int) (ts : List (List Int)) : first1 (p0 :: p1 :: ts) = if first1 [p0, p1] = 0 then first1 ts else first1 [p0, p1] := by
  simp only [first1]
  repeat' split
  all_goals first | rfl | contradiction
end Go.Proofs.Ytejejmhbhegneaa
namespace Go.Proofs.Ytejejmhbhegneaa
open Go Go.RowKit
abbrev rowE (w : Nat) (l : List Nat) : List Ev := l.map fun x => (w, x)
def okPR (es : List Ev) (a : Nat) (l : List Nat) : Bool := (List.range l.length).all fun j => okPre (es ++ (rowE a l).take j) (a, l.getD j 0)
def okTR (es : List Ev) (w : Nat) (l : List Nat) : Bool := (List.range (l.length + 1)).all fun j => okT (es ++ (rowE w (l ++ [0])).take j) w ((l ++ [0]).getD j 0)
theorem rowE_next {es : List Ev} {w j : Nat} {l : List Nat} (h : j < l.length) : es ++ (rowE w l).take (j + 1) = (es ++ (rowE w l).take j) ++ [(w, l.getD j 0)] := by
  rw [List.take_add_one, List.append_assoc, List.getElem?_map, List.getElem?_eq_getElem h, List.getD_eq_getElem?_getD, List.getElem?_eq_getElem h]; rfl
theorem rowE_zero {es : List Ev} {w : Nat} {l : List Nat} : es ++ (rowE w l).take 0 = es := by simp
theorem rowE_all {es : List Ev} {w : Nat} {l : List Nat} : es ++ (rowE w l).take l.length = es ++ rowE w l := by
  rw [List.take_of_length_le (by simp)]
theorem all_true {n : Nat} {f : Nat → Bool} (h : ∀ j, j < n → f j = true) : (List.range n).all f = true := by
  rw [List.all_eq_true]; exact fun j hj => h j (by simpa using hj)
theorem all_false {n j : Nat} {f : Nat → Bool} (hj : j < n) (h : f j = false) : (List.range n).all f = false := by
  rw [List.all_eq_false]; exact ⟨j, by simpa using hj, by rw [h]; decide⟩
theorem all_at {n : Nat} {f : Nat → Bool} (h : (List.range n).all f = true) : ∀ j, j < n → f j = true := fun j hj => by
  rw [List.all_eq_true] at h; exact h j (by simpa using hj)
theorem all_not {n : Nat} {f : Nat → Bool} (h : (List.range n).all f = false) : ∃ j, j < n ∧ f j = false := by
  rw [List.all_eq_false] at h
  obtain ⟨j, h1, h2⟩ := h
  exact ⟨j, by simpa using h1, by simpa using h2⟩
theorem rowZ_take {w j : Nat} {l : List Nat} (h : j ≤ l.length) : (rowE w (l ++ [0])).take j = (rowE w l).take j := by
  rw [rowE, List.map_append, List.take_append_of_le_length (by simpa using h)]
theorem rowZ_at {j : Nat} {l : List Nat} (h : j < l.length) : (l ++ [0]).getD j 0 = l.getD j 0 := by
  rw [List.getD_eq_getElem?_getD, List.getElem?_append_left h, ← List.getD_eq_getElem?_getD]
theorem rowZ_end {l : List Nat} : (l ++ [0]).getD l.length 0 = 0 := by
  rw [List.getD_eq_getElem?_getD, List.getElem?_append_right (Nat.le_refl _), Nat.sub_self]; rfl
theorem okTR_step {es : List Ev} {w j : Nat} {l : List Nat} (h : j < l.length) : okT (es ++ (rowE w (l ++ [0])).take j) w ((l ++ [0]).getD j 0) = okT (es ++ (rowE w l).take j) w (l.getD j 0) := by
  rw [rowZ_take (by omega), rowZ_at h]
theorem okTR_last {es : List Ev} {w : Nat} {l : List Nat} : okT (es ++ (rowE w (l ++ [0])).take l.length) w ((l ++ [0]).getD l.length 0) = okT (es ++ rowE w l) w 0 := by
  rw [rowZ_take (Nat.le_refl _), rowZ_end, rowE_all]
theorem okTR_bad {es : List Ev} {w j : Nat} {l : List Nat} (h : j < l.length) (hf : okT (es ++ (rowE w l).take j) w (l.getD j 0) = false) : okTR es w l = false :=
  all_false (j := j) (by omega) (by rw [okTR_step h]; exact hf)
theorem okTR_fin {es : List Ev} {w : Nat} {l : List Nat} (h : ∀ j, j < l.length → okT (es ++ (rowE w l).take j) w (l.getD j 0) = true) : okTR es w l = okT (es ++ rowE w l) w 0 := by
  cases hz : okT (es ++ rowE w l) w 0 with
  | true =>
    refine all_true fun j hj => ?_
    by_cases e : j = l.length
    · subst e; rw [okTR_last]; exact hz
    · rw [okTR_step (by omega)]; exact h j (by omega)
  | false => exact all_false (j := l.length) (by omega) (by rw [okTR_last]; exact hz)
theorem kst_rowZ {es : List Ev} {w : Nat} {l : List Nat} : kst (stE (es ++ rowE w l)) = kst (stE (es ++ rowE w (l ++ [0]))) := by
  rw [show es ++ rowE w (l ++ [0]) = (es ++ rowE w l) ++ [(w, 0)] by simp [rowE], kst_zero]
theorem okPR_bad {es : List Ev} {a j : Nat} {l : List Nat} (h : j < l.length) (hf : okPre (es ++ (rowE a l).take j) (a, l.getD j 0) = false) : okPR es a l = false := all_false h hf
theorem okPR_ok {es : List Ev} {a : Nat} {l : List Nat} (h : ∀ j, j < l.length → okPre (es ++ (rowE a l).take j) (a, l.getD j 0) = true) : okPR es a l = true := all_true h
theorem uptoE_part (L : List (List Ev)) (i j : Nat) : uptoE L i j = uptoE L i 0 ++ (L.getD i []).take j := by simp [uptoE]
theorem pre_row {L : List (List Ev)} {a : Nat} {q : List Nat} (ha : a < 2) (hq : L.getD a [] = rowE a q) {j : Nat} (hj : j < q.length) : okAt L a j = okPre (uptoE L a 0 ++ (rowE a q).take j) (a, q.getD j 0) := by
  rw [okAt, if_pos ha, uptoE_part, hq, map_at hj]
theorem turn_row {L : List (List Ev)} {i w : Nat} {u : List Nat} (hq : L.getD (2 + i) [] = rowE w (u ++ [0])) {j : Nat} (hj : j < u.length + 1) : okAt L (2 + i) j = okT (uptoE L (2 + i) 0 ++ (rowE w (u ++ [0])).take j) w ((u ++ [0]).getD j 0) := by
  rw [okAt, if_neg (by omega), uptoE_part, hq, map_at (by simpa using hj)]; rfl
theorem pre_bad {L : List (List Ev)} {a : Nat} {q : List Nat} (hL : 2 ≤ L.length) (ha : a < 2) (hq : L.getD a [] = rowE a q) (h : okPR (uptoE L a 0) a q = false) : fin3 L = 3 := by
  obtain ⟨j, hj, hf⟩ := all_not h
  exact fin3_bad (i := a) (j := j) (by omega) (by rw [hq]; simpa using hj) (by rw [pre_row ha hq hj]; exact hf)
theorem pre_ok {L : List (List Ev)} {a : Nat} {q : List Nat} (ha : a < 2) (hq : L.getD a [] = rowE a q) (h : okPR (uptoE L a 0) a q = true) : ∀ t, t < (L.getD a []).length → okAt L a t = true := fun t ht => by
  have ht : t < q.length := by rw [hq] at ht; simpa using ht
  rw [pre_row ha hq ht]; exact all_at h t ht
theorem turn_bad {L : List (List Ev)} {i w : Nat} {u : List Nat} (hL : 2 + i < L.length) (hq : L.getD (2 + i) [] = rowE w (u ++ [0])) (h : okTR (uptoE L (2 + i) 0) w u = false) : fin3 L = 3 := by
  obtain ⟨j, hj, hf⟩ := all_not h
  exact fin3_bad (i := 2 + i) (j := j) hL (by rw [hq]; simpa using hj) (by rw [turn_row hq hj]; exact hf)
theorem turn_ok {L : List (List Ev)} {i w : Nat} {u : List Nat} (hq : L.getD (2 + i) [] = rowE w (u ++ [0])) (h : okTR (uptoE L (2 + i) 0) w u = true) : ∀ t, t < (L.getD (2 + i) []).length → okAt L (2 + i) t = true := fun t ht => by
  have ht : t < u.length + 1 := by rw [hq] at ht; simpa using ht
  rw [turn_row hq ht]; exact all_at h t ht
theorem row_next {L : List (List Ev)} {i : Nat} (hi : i < L.length) : uptoE L i 0 ++ L.getD i [] = uptoE L (i + 1) 0 := by
  rw [← uptoE_row hi, uptoE_part L i (L.getD i []).length, List.take_length]
theorem whoT_lt (late : Bool) (i : Nat) : whoT late i < 2 := by unfold whoT; split <;> omega
theorem whoT_next (late : Bool) (i : Nat) : 1 - whoT late i = whoT late (i + 1) := by
  unfold whoT
  split <;> omega
theorem pre_two {r : Nat} {t : TypeId} {b c d v0 v1 e : Value} : Shows [(⟨r, cells 6 [pV b, pV c, pV d, pV v0, pV v1, pV e], t⟩ : Blk)] 1 (.slice (some ⟨r, 3, none⟩) 2 2) [v0, v1].length [v0, v1] :=
  .inr ⟨r, 3, 2, cells 6 [pV b, pV c, pV d, pV v0, pV v1, pV e], t, rfl, Nat.le_refl _, List.mem_singleton.2 rfl, rfl, by rw [arrv_size]; exact (by decide : 3 + 2 * 1 ≤ 6), fun j u hj => by
    match j, hj with
    | 0, hj => exact hj
    | 1, hj => exact hj
    | j + 2, hj => simp at hj⟩
theorem li_two {B : Mem} {v0 v1 : Value} {vs : List Value} {p0 p1 : List Int} {ts : List (List Int)} (h : ShowsLI B (v0 :: v1 :: vs) (p0 :: p1 :: ts)) : ShowsLI B [v0, v1] [p0, p1] := ⟨rfl, fun i hi => by
  match i, hi with
  | 0, _ => exact h.2 0 (by simp)
  | 1, _ => exact h.2 1 (by simp)
  | i + 2, hi => exact absurd hi (by simp)⟩
end Go.Proofs.Ytejejmhbhegneaa
/-
  Facts on this program's types, in tables.
-/
namespace Go.Proofs.Ytejejmhbhegneaa
open Go Go.RowKit
def lkT {α : Type} : List (Nat × α) → Nat → Option α
  | [], _ => none
  | (k, a) :: l, t => bif Nat.beq k t then some a else lkT l t
theorem lkT_map {α : Type} {f : Nat → Option α} : ∀ {L : List (Nat × α)} {t : Nat} {d : α}, L.map (fun p => f p.1) = L.map (fun p => some p.2) → lkT L t = some d → f t = some d
  | [], _, _, _, h => by cases h
  | (k, a) :: L, t, d, h, hk => by
    rw [List.map_cons, List.map_cons, List.cons.injEq] at h
    unfold lkT at hk
    cases hb : Nat.beq k t with
    | true => rw [hb] at hk; rw [← Nat.eq_of_beq_eq_true hb, h.1]; exact hk
    | false => rw [hb] at hk; exact lkT_map h.2 hk
theorem mixed : Try.prog.follows .mixedOrders = true := by kernel_rfl
def tbu : List (Nat × TypeDesc) := [(3, (.int .i64)), (4, (.bool)), (22, (.slice 3)), (23, (.array 2 22)), (24, (.slice 22)), (26, (.struct #[.mk "Base" 9 0 false "" "" 0, .mk "Late" 4 1 false "" "" 16, .mk "Psks" 22 2 false "" "" 24, .mk "Pre" 23 3 false "" "" 48, .mk "Turns" 24 5 false "" "" 96])), (31, (.slice 34)), (34, (.struct #[.mk "who" 3 0 false "" "signet/signetref" 0, .mk "token" 3 1 false "" "signet/signetref" 8])), (36, (.array 3 4)), (37, (.array 2 36)), (38, (.array 8 4)), (40, (.struct #[.mk "keys" 37 0 false "" "signet/pattern" 0, .mk "been" 38 6 false "" "signet/pattern" 6])), (45, (.array 2 3))]
theorem tbu_ok : tbu.map (fun p => (fun t => Try.prog.underlying t) p.1) = tbu.map (fun p => some p.2) := by kernel_rfl
set_option maxRecDepth 100000 in
theorem Tu {T : TypeId} {d : TypeDesc} (h : lkT tbu T = some d) : Try.prog.underlying T = some d := lkT_map (L := tbu) (f := fun t => Try.prog.underlying t) tbu_ok h
theorem Uu (T : TypeId) {d : TypeDesc} (h : lkT tbu T = some d := by rfl) : Try.prog.underlying T = some d := Tu h
def tbz : List (Nat × Nat) := [(3, 1), (4, 1), (22, 1), (23, 2), (24, 1), (26, 6), (34, 2), (36, 3), (37, 6), (38, 8), (45, 2)]
theorem tbz_ok : tbz.map (fun p => (fun t => (Try.prog.info? t).map (·.size)) p.1) = tbz.map (fun p => some p.2) := by kernel_rfl
set_option maxRecDepth 100000 in
theorem Tz {T : TypeId} {d : Nat} (h : lkT tbz T = some d) : (Try.prog.info? T).map (·.size) = some d := lkT_map (L := tbz) (f := fun t => (Try.prog.info? t).map (·.size)) tbz_ok h
theorem Uz (T : TypeId) {d : Nat} (h : lkT tbz T = some d := by rfl) : (Try.prog.info? T).map (·.size) = some d := Tz h
def tby : List (Nat × Nat) := [(3, 8), (22, 24), (34, 16)]
theorem tby_ok : tby.map (fun p => (fun t => (Try.prog.info? t).map (·.bytes)) p.1) = tby.map (fun p => some p.2) := by kernel_rfl
set_option maxRecDepth 100000 in
theorem Ty {T : TypeId} {d : Nat} (h : lkT tby T = some d) : (Try.prog.info? T).map (·.bytes) = some d := lkT_map (L := tby) (f := fun t => (Try.prog.info? t).map (·.bytes)) tby_ok h
theorem Uy (T : TypeId) {d : Nat} (h : lkT tby T = some d := by rfl) : (Try.prog.info? T).map (·.bytes) = some d := Ty h
def tbb : List (Nat × Value) := [(3, (.int .i64 0)), (22, (.slice none 0 0)), (34, (.agg (arr .i64 2 fun _ => 0))), (40, (.agg (arrv 14 fun _ => .bool false))), (45, (.agg (arr .i64 2 fun _ => 0)))]
theorem tbb_ok : tbb.map (fun p => (fun t => (Try.prog.info? t).bind (·.zero)) p.1) = tbb.map (fun p => some p.2) := by kernel_rfl
set_option maxRecDepth 100000 in
theorem Tb {T : TypeId} {d : Value} (h : lkT tbb T = some d) : (Try.prog.info? T).bind (·.zero) = some d := lkT_map (L := tbb) (f := fun t => (Try.prog.info? t).bind (·.zero)) tbb_ok h
theorem Ub (T : TypeId) {d : Value} (h : lkT tbb T = some d := by rfl) : (Try.prog.info? T).bind (·.zero) = some d := Tb h
def tbn : List Nat := [4, 5, 6, 7, 8, 9, 10, 11, 12, 13, 14, 15, 16, 17, 18]
theorem tbn_ok : tbn.all (fun f => enters Try.prog f) = true := by kernel_rfl
theorem Un (f : FuncId) (h : tbn.contains f = true := by rfl) : enters Try.prog f = true := List.all_eq_true.1 tbn_ok f (List.contains_iff_mem.1 h)
end Go.Proofs.Ytejejmhbhegneaa
/-
  Rules with short names.
-/
namespace Go.Proofs.Ytejejmhbhegneaa
open Go Go.RowKit
variable {G : Mem} {R : Reg} {ops : Array Oper} {n : Nat} {K : Env → Mm → Prop} {Q : Exit → Env → Mm → Prop} {rest : List Oper} {E : Env} {M : Mm} {d : Nat} {ty : TypeId} {pos : String} {aft : Array Edge} {T : TypeId} {T' : TypeId} {x : Operand} {y : Operand}
theorem Qs {c : Code} {c' : Code} : (SatE Try.prog G c n (thenE (SatE Try.prog G c' n Q) Q) E M) → SatE Try.prog G (.seq c c') n Q E M := fun h => e_seq h
theorem Qp {id : Nat} : (OpsE Try.prog G noReg ops n (Q .normal) ops.toList E M) → SatE Try.prog G (.region id ops false) n Q E M := fun h => e_plain h
theorem Qn : (K E M) → OpsE Try.prog G R ops n K [] E M := fun h => e_nil h
theorem Qk : (Q .normal E M) → SatE Try.prog G .skip n Q E M := fun h => e_skip h
theorem Qb {id : Nat} {c : Code} : (SatE Try.prog G c n (inBlockE id Q) E M) → SatE Try.prog G (.block id c) n Q E M := fun h => e_block h
theorem Qe {id : Nat} : (Q (.exit id) E M) → SatE Try.prog G (.exit id) n Q E M := fun h => e_exit h
theorem Qr : (Q .ret E M) → SatE Try.prog G .ret n Q E M := fun h => e_ret h
theorem Qm {v : Value} (hx : rd E x = some v := by rfl) (hd : Nat.blt d n = true := by rfl) : (OpsE Try.prog G R ops n K rest ((d, v) :: E) M) → OpsE Try.prog G R ops n K (⟨some d, .move x, ty, pos, aft, none⟩ :: rest) E M := fun h => e_move hx hd h
theorem Qa {v : Value} (hx : rd E x = some v := by rfl) (hd : Nat.blt d n = true := by rfl) : (OpsE Try.prog G R ops n K rest ((d, v) :: E) M) → OpsE Try.prog G R ops n K (⟨some d, .assign x, ty, pos, aft, none⟩ :: rest) E M := fun h => e_assign hx hd h
theorem Qy {dd : Option Tmp} {op : Op} {g : Nat} {s : Nat} {want : Bool} {b : Bool} (hg : (ops[g]?).bind (·.dst) = some s := by rfl) (hb : lk E s = some (.bool b) := by rfl) (hw : b = want := by rfl) : (OpsE Try.prog G R ops n K (⟨dd, op, ty, pos, aft, none⟩ :: rest) E M) → OpsE Try.prog G R ops n K (⟨dd, op, ty, pos, aft, some (g, want)⟩ :: rest) E M := fun h => e_yes hg hb hw h
theorem Qo {op : Op} {g : Nat} {s : Nat} {want : Bool} {b : Bool} (hg : (ops[g]?).bind (·.dst) = some s := by rfl) (hb : lk E s = some (.bool b) := by rfl) (hw : b ≠ want := by decide) (hd : Nat.blt d n = true := by rfl) : (OpsE Try.prog G R ops n K rest ((d, undef) :: E) M) → OpsE Try.prog G R ops n K (⟨some d, op, ty, pos, aft, some (g, want)⟩ :: rest) E M := fun h => e_no hg hb hw hd h
theorem Qw {op : Op} {g : Nat} {s : Nat} {want : Bool} (hg : (ops[g]?).bind (·.dst) = some s := by rfl) (hb : lk E s = some undef := by rfl) (hd : Nat.blt d n = true := by rfl) : (OpsE Try.prog G R ops n K rest ((d, undef) :: E) M) → OpsE Try.prog G R ops n K (⟨some d, op, ty, pos, aft, some (g, want)⟩ :: rest) E M := fun h => e_no2 hg hb hd h
theorem QT {p : Operand} {q : Operand} {r : Operand} {t : Bool} {v : Value} (hc : rd E p = some (.bool t) := by rfl) (ht : t = true := by rfl) (hv : rd E q = some v := by rfl) (hd : Nat.blt d n = true := by rfl) : (OpsE Try.prog G R ops n K rest ((d, v) :: E) M) → OpsE Try.prog G R ops n K (⟨some d, .pick p q r, ty, pos, aft, none⟩ :: rest) E M := fun h => e_pickT hc ht hv hd h
theorem QF {p : Operand} {q : Operand} {r : Operand} {t : Bool} {v : Value} (hc : rd E p = some (.bool t) := by rfl) (ht : t = false := by rfl) (hv : rd E r = some v := by rfl) (hd : Nat.blt d n = true := by rfl) : (OpsE Try.prog G R ops n K rest ((d, v) :: E) M) → OpsE Try.prog G R ops n K (⟨some d, .pick p q r, ty, pos, aft, none⟩ :: rest) E M := fun h => e_pickF hc ht hv hd h
theorem Qg {id : Nat} (hm : Try.prog.follows .mixedOrders = true := by exact mixed) (hok : orderOk noReg ops (List.range ops.size) = true := by kernel_rfl) : (OpsE Try.prog G noReg ops n (Q .normal) ops.toList E M) → SatE Try.prog G (.region id ops true) n Q E M := fun h => e_draw hm hok h
theorem QR {id : Nat} (R : Reg) : (OpsE Try.prog G R ops n (Q .normal) ops.toList E M) → SatE Try.prog G (.region id ops false) n Q E M := fun h => e_plainR R h
theorem Ql {k : IntKind} {p : Int} {q : Int} (hx : rd E x = some (.int k p) := by rfl) (hy : rd E y = some (.int k q) := by rfl) (hd : Nat.blt d n = true := by rfl) : (OpsE Try.prog G R ops n K rest ((d, .bool (decide (p < q))) :: E) M) → OpsE Try.prog G R ops n K (⟨some d, .binOp .lss T x y T', ty, pos, aft, none⟩ :: rest) E M := fun h => e_lt hx hy hd h
theorem QG {k : IntKind} {p : Int} {q : Int} (hx : rd E x = some (.int k p) := by rfl) (hy : rd E y = some (.int k q) := by rfl) (hd : Nat.blt d n = true := by rfl) : (OpsE Try.prog G R ops n K rest ((d, .bool (decide (q < p))) :: E) M) → OpsE Try.prog G R ops n K (⟨some d, .binOp .gtr T x y T', ty, pos, aft, none⟩ :: rest) E M := fun h => e_gt hx hy hd h
theorem Qc {k : IntKind} {p : Int} {q : Int} (hx : rd E x = some (.int k p) := by rfl) (hy : rd E y = some (.int k q) := by rfl) (hd : Nat.blt d n = true := by rfl) : (OpsE Try.prog G R ops n K rest ((d, .bool (decide (p = q))) :: E) M) → OpsE Try.prog G R ops n K (⟨some d, .binOp .eql T x y T', ty, pos, aft, none⟩ :: rest) E M := fun h => e_eq hx hy hd h
theorem QN {k : IntKind} {p : Int} {q : Int} (hx : rd E x = some (.int k p) := by rfl) (hy : rd E y = some (.int k q) := by rfl) (hd : Nat.blt d n = true := by rfl) : (OpsE Try.prog G R ops n K rest ((d, .bool (decide (p ≠ q))) :: E) M) → OpsE Try.prog G R ops n K (⟨some d, .binOp .neq T x y T', ty, pos, aft, none⟩ :: rest) E M := fun h => e_ne hx hy hd h
theorem Q0 {b : Bool} (hx : rd E x = some (.bool b) := by rfl) (hd : Nat.blt d n = true := by rfl) : (OpsE Try.prog G R ops n K rest ((d, .bool (!b)) :: E) M) → OpsE Try.prog G R ops n K (⟨some d, .unOp .not T x, ty, pos, aft, none⟩ :: rest) E M := fun h => e_not hx hd h
theorem QD {b : Nat} {l : Nat} {c : Array Value} {t : TypeId} {td : TypeDesc} (i : Nat) (hT : Try.prog.underlying T = some td := by exact Tu rfl) (hn : rowLike td = true := by rfl) (hs : (Try.prog.info? T).map (·.size) = some l := by exact Tz rfl) (hx : rd E x = some (.pointer (some ⟨b, 0, none⟩)) := by rfl) (hm : lkM M i = some ⟨b, c, t⟩ := by rfl) (hl : c.size = l := by exact (arrv_size _ _)) (hd : Nat.blt d n = true := by rfl) (hX : ∃ js, okXL M i js R := by exact ⟨[], trivial⟩) : (OpsE Try.prog G R ops n K rest ((d, .agg c) :: E) M) → OpsE Try.prog G R ops n K (⟨some d, .load T x, ty, pos, aft, none⟩ :: rest) E M := fun h => e_loadA (i := i) hT hn hs hx hm hl hd hX h
theorem Q1 {b : Nat} {o : Nat} {c : Array Value} {t : TypeId} {v : Value} {td : TypeDesc} (i : Nat) (hT : Try.prog.underlying T = some td := by exact Tu rfl) (hn : rowLike td = false := by rfl) (hx : rd E x = some (.pointer (some ⟨b, o, none⟩)) := by rfl) (hm : lkM M i = some ⟨b, c, t⟩ := by rfl) (hc : c[o]? = some v := by exact (arr_get (by omega))) (hd : Nat.blt d n = true := by rfl) (hX : ∃ js, okXL M i js R := by exact ⟨[], trivial⟩) : (OpsE Try.prog G R ops n K rest ((d, v) :: E) M) → OpsE Try.prog G R ops n K (⟨some d, .load T x, ty, pos, aft, none⟩ :: rest) E M := fun h => e_load1 (i := i) hT hn hx hm hc hd hX h
theorem Qt {b : Nat} {l : Nat} {c : Array Value} {c' : Array Value} {t : TypeId} (i : Nat) (hs : (Try.prog.info? T).map (·.size) = some l := by exact Tz rfl) (hx : rd E x = some (.pointer (some ⟨b, 0, none⟩)) := by rfl) (hy : rd E y = some (.agg c') := by rfl) (hl : c'.size = l := by exact (arr_size _ _ _)) (hv : ∀ v ∈ c', v.oneCell' = true := by exact arr_one) (hm : lkM M i = some ⟨b, c, t⟩ := by rfl) (ho : c'.size = c.size := by exact (arr_sz _ _ _ _ _)) (hX : R.X = [] ∨ b ∈ R.X := by exact (.inl rfl)) : (OpsE Try.prog G R ops n K rest E ((i, some ⟨b, c', t⟩) :: M)) → OpsE Try.prog G R ops n K (⟨none, .store T x y, ty, pos, aft, none⟩ :: rest) E M := fun h => e_storeA (i := i) hs hx hy hl hv hm ho hX h
theorem Qf {b : Nat} {o : Nat} {f : Nat} {sz : Nat} {fs : Array Field} {fd : Field} (o' : Nat) (hT : Try.prog.underlying T = some (.struct fs) := by exact Tu rfl) (hf : fs[f]? = some fd := by rfl) (hs : (Try.prog.info? fd.type).map (·.size) = some (sz + 1) := by exact Tz rfl) (hx : rd E x = some (.pointer (some ⟨b, o, none⟩)) := by rfl) (ho : o + fd.offset = o' := by rfl) (hd : Nat.blt d n = true := by rfl) : (OpsE Try.prog G R ops n K rest ((d, .pointer (some ⟨b, o', none⟩)) :: E) M) → OpsE Try.prog G R ops n K (⟨some d, .fieldAddr T x f, ty, pos, aft, none⟩ :: rest) E M := fun h => e_fld o' hT hf hs hx ho hd h
theorem Qi {b : Nat} {j : Nat} {l : Nat} {k : IntKind} {e : TypeId} (hT : Try.prog.underlying T = some (.array l e) := by exact Tu rfl) (hs : (Try.prog.info? e).map (·.size) = some 1 := by exact Tz rfl) (hx : rd E x = some (.pointer (some ⟨b, 0, none⟩)) := by rfl) (hy : rd E y = some (.int k (j : Int)) := by rfl) (hj : j < l := by omega) (hd : Nat.blt d n = true := by rfl) : (OpsE Try.prog G R ops n K rest ((d, .pointer (some ⟨b, j, none⟩)) :: E) M) → OpsE Try.prog G R ops n K (⟨some d, .indexAddr T x y, ty, pos, aft, none⟩ :: rest) E M := fun h => e_index0 hT hs hx hy hj hd h
theorem Qj {b : Nat} {l : Nat} {k : IntKind} {e : TypeId} (j : Nat) (hT : Try.prog.underlying T = some (.array l e) := by exact Tu rfl) (hs : (Try.prog.info? e).map (·.size) = some 1 := by exact Tz rfl) (hx : rd E x = some (.pointer (some ⟨b, 0, none⟩)) := by rfl) (hy : rd E y = some (.int k (j : Int)) := by rfl) (hj : j < l := by omega) (hd : Nat.blt d n = true := by rfl) : (OpsE Try.prog G R ops n K rest ((d, .pointer (some ⟨b, j, none⟩)) :: E) M) → OpsE Try.prog G R ops n K (⟨some d, .indexAddr T x y, ty, pos, aft, none⟩ :: rest) E M := fun h => e_index0 (j := j) hT hs hx hy hj hd h
theorem QA {b : Nat} {o : Nat} {l : Nat} {z : Nat} {k : IntKind} {e : TypeId} (o' : Nat) (j : Nat) (hT : Try.prog.underlying T = some (.array l e) := by exact Tu rfl) (hs : (Try.prog.info? e).map (·.size) = some (z + 1) := by exact Tz rfl) (hx : rd E x = some (.pointer (some ⟨b, o, none⟩)) := by rfl) (hy : rd E y = some (.int k (j : Int)) := by rfl) (hj : j < l := by omega) (ho : o + j * (z + 1) = o' := by omega) (hd : Nat.blt d n = true := by rfl) : (OpsE Try.prog G R ops n K rest ((d, .pointer (some ⟨b, o', none⟩)) :: E) M) → OpsE Try.prog G R ops n K (⟨some d, .indexAddr T x y, ty, pos, aft, none⟩ :: rest) E M := fun h => e_at (j := j) o' hT hs hx hy hj ho hd h
theorem QB {b : Nat} {o : Nat} {j : Nat} {l : Nat} {z : Nat} {k : IntKind} {e : TypeId} (o' : Nat) (hT : Try.prog.underlying T = some (.array l e) := by exact Tu rfl) (hs : (Try.prog.info? e).map (·.size) = some (z + 1) := by exact Tz rfl) (hx : rd E x = some (.pointer (some ⟨b, o, none⟩)) := by rfl) (hy : rd E y = some (.int k (j : Int)) := by rfl) (hj : j < l := by omega) (ho : o + j * (z + 1) = o' := by omega) (hd : Nat.blt d n = true := by rfl) : (OpsE Try.prog G R ops n K rest ((d, .pointer (some ⟨b, o', none⟩)) :: E) M) → OpsE Try.prog G R ops n K (⟨some d, .indexAddr T x y, ty, pos, aft, none⟩ :: rest) E M := fun h => e_at o' hT hs hx hy hj ho hd h
theorem Qh {v : Value} (i : Nat) (hx : rd E x = some v := by rfl) (hd : Nat.blt d n = true := by rfl) : (∀ r, OpsE Try.prog G R ops n K rest ((d, ptr r) :: E) ((i, some ⟨r, v.cells, T⟩) :: M)) → OpsE Try.prog G R ops n K (⟨some d, .box T x, ty, pos, aft, none⟩ :: rest) E M := fun h => e_box i hx hd h
theorem QH {z : Value} (i : Nat) (hz : (Try.prog.info? T).bind (·.zero) = some z := by exact Tb rfl) (hd : Nat.blt d n = true := by rfl) : (∀ r, OpsE Try.prog G R ops n K rest ((d, ptr r) :: E) ((i, some ⟨r, z.cells, T⟩) :: M)) → OpsE Try.prog G R ops n K (⟨some d, .alloc T, ty, pos, aft, none⟩ :: rest) E M := fun h => e_alloc i hz hd h
theorem QV {b : Nat} {o : Nat} {N : Nat} {v : Value} {ps : List Part} {t : TypeId} {td : TypeDesc} (k : Nat) (i : Nat) (hT : Try.prog.underlying T = some td := by exact Tu rfl) (hn : rowLike td = false := by rfl) (hx : rd E x = some (.pointer (some ⟨b, o, none⟩)) := by rfl) (hm : lkM M i = some ⟨b, cells N ps, t⟩ := by rfl) (hk : catAt ps k = some (o, pV v) := by rfl) (hN : o < N := by decide) (hd : Nat.blt d n = true := by rfl) (hX : ∃ js, okXL M i js R := by exact ⟨[], trivial⟩) : (OpsE Try.prog G R ops n K rest ((d, v) :: E) M) → OpsE Try.prog G R ops n K (⟨some d, .load T x, ty, pos, aft, none⟩ :: rest) E M := fun h => e_ldV1 (i := i) k hT hn hx hm hk hN hd hX h
theorem Q2 {p : Nat} (q : Nat) (hx : rd E x = some (ii p) := by rfl) (hy : rd E y = some (ii q) := by rfl) (hd : Nat.blt d n = true := by rfl) (hb : p + q < 9223372036854775808 := by omega) : (OpsE Try.prog G R ops n K rest ((d, ii (p + q)) :: E) M) → OpsE Try.prog G R ops n K (⟨some d, .binOp .add T x y T', ty, pos, aft, none⟩ :: rest) E M := fun h => e_add_i (q := q) hx hy hd hb h
theorem Q4 {p : Nat} (q : Nat) (hx : rd E x = some (ii p) := by rfl) (hy : rd E y = some (ii q) := by rfl) (hd : Nat.blt d n = true := by rfl) (hq : 0 < q := by omega) : (OpsE Try.prog G R ops n K rest ((d, ii (p % q)) :: E) M) → OpsE Try.prog G R ops n K (⟨some d, .binOp .rem T x y T', ty, pos, aft, none⟩ :: rest) E M := fun h => e_rem_i (q := q) hx hy hd hq h
theorem QY {fn : Go.Fn} {fs : Array Operand} {cs : Array Operand} {vf : List Value} {vc : List Value} (h1 : rdl E fs.toList = some vf := by rfl) (h2 : rdl E cs.toList = some vc := by rfl) (hd : Nat.blt d n = true := by rfl) : (OpsE Try.prog G R ops n K rest ((d, .func fn vf.toArray vc.toArray) :: E) M) → OpsE Try.prog G R ops n K (⟨some d, .makeFunc fn fs cs, ty, pos, aft, none⟩ :: rest) E M := fun h => e_func h1 h2 hd h
theorem QC {e : TypeId} {v : Value} {B : Mem} {z : Nat} {k : Nat} {xs : List Value} (hv : Shows B z v k xs) (hT : Try.prog.underlying T = some (.slice e) := by exact Tu rfl) (hx : rd E x = some v := by rfl) (hd : Nat.blt d n = true := by rfl) (hR : callOk R = true := by rfl) : (OpsE Try.prog G R ops n K rest ((d, ii k) :: E) M) → OpsE Try.prog G R ops n K (⟨some d, .call ⟨.builtin .len, #[x], #[T]⟩, ty, pos, aft, none⟩ :: rest) E M := fun h => e_lenV hv hT hx hd hR h
theorem QS {l : List Oper} {s : Nat} {v : Value} {v' : Value} (hv : v = v' := by exact (congrArg (slAddr _) (Nat.mul_one _))) : (OpsE Try.prog G R ops n K l ((s, v') :: E) M) → OpsE Try.prog G R ops n K l ((s, v) :: E) M := fun h => e_as hv h
theorem Qat {l : List Oper} {s : Nat} {v : Value} {v' : Value} (hv : v = v' := by exact (congrArg Value.bool (decide_eq_true (by omega)))) : (OpsE Try.prog G R ops n K l ((s, v') :: E) M) → OpsE Try.prog G R ops n K l ((s, v) :: E) M := fun h => e_as hv h
theorem Qaf {l : List Oper} {s : Nat} {v : Value} {v' : Value} (hv : v = v' := by exact (congrArg Value.bool (decide_eq_false (by omega)))) : (OpsE Try.prog G R ops n K l ((s, v') :: E) M) → OpsE Try.prog G R ops n K l ((s, v) :: E) M := fun h => e_as hv h
theorem Qar {l : List Oper} {s : Nat} {v : Value} {v' : Value} (hv : v = v' := by exact (congrArg Value.bool (decide_eq_true rfl))) : (OpsE Try.prog G R ops n K l ((s, v') :: E) M) → OpsE Try.prog G R ops n K l ((s, v) :: E) M := fun h => e_as hv h
theorem Qct {c : Operand} {p : Code} {q : Code} (hc : rd E c = some (.bool true) := by rfl) : (SatE Try.prog G p n Q E M) → SatE Try.prog G (.cond c p q) n Q E M := fun h => e_condT hc h
theorem Qcf {c : Operand} {p : Code} {q : Code} (hc : rd E c = some (.bool false) := by rfl) : (SatE Try.prog G q n Q E M) → SatE Try.prog G (.cond c p q) n Q E M := fun h => e_condF hc h
theorem QzK {c : Code} (Ek : Env) (Mk : Mm) (I : Nat → Env → Mm → Prop) {E0 : Env} {M0 : Mm} {k : Nat} (h0 : I k E0 M0) (hs : sub (catE E0 Ek) E) (hl : subL (catL M0 Mk) M) (round : ∀ k E M, I k E M → SatE Try.prog G c n (thenE (fun E' M' => ∃ k' E'' M'', k' < k ∧ sub (catE E'' Ek) E' ∧ subL (catL M'' Mk) M' ∧ I k' E'' M'') Q) (catE E Ek) (catL M Mk)) : SatE Try.prog G (.loop c) n Q E M := e_loopK Ek Mk I E0 M0 k hs hl h0 round
theorem QzL {I : Nat → Env → Mm → Prop} {k k' : Nat} {Ek : Env} {Mk : Mm} {E' : Env} {M' : Mm} {E'' : Env} {M'' : Mm} (h : I k' E'' M'') (hs : sub (catE E'' Ek) E') (hl : subL (catL M'' Mk) M') (hk : k' < k) : ∃ k' E'' M'', k' < k ∧ sub (catE E'' Ek) E' ∧ subL (catL M'' Mk) M' ∧ I k' E'' M'' := ⟨_, _, _, hk, hs, hl, h⟩
theorem Qf1 {f : FuncId} {fn : Func} {c : Code} {vs : List Value} {v : Value} (hf : Try.prog.funcs[f]? = some fn) (h : SatE Try.prog G c n (End1 Try.prog fn v) (argE vs 0) []) (hb : fn.body = some c := by rfl) (hn : fn.ntmps = n := by rfl) (ha : vs.toArray.size ≤ n := by simp) : Fn Try.prog G f vs.toArray v := fn1 hf hb hn ha (argE vs 0) (argE_ok vs) h
abbrev Sh (G : Mem) (v : Value) (l : List Nat) : Prop := Shows G 1 v l.length (l.map by8)
abbrev By (l : List Nat) : Prop := ∀ b ∈ l, b < 256
abbrev L8 (n : Nat) (f : Nat → Nat) : Prop := ∀ j, j < n → f j < 256
end Go.Proofs.Ytejejmhbhegneaa
namespace Go.Proofs.Ytejejmhbhegneaa
open Go Go.RowKit
theorem pls34 (w : World) : (((#[.mk "who" 3 0 false "" "signet/signetref" 0, .mk "token" 3 1 false "" "signet/signetref" 8] : Array Field).mapM fun f => do pure (f.offset, ← sizeOf f.type) : Sem (Array (Nat × Nat)))).run Try.prog w = .ok #[(0, 1), (1, 1)] w := places_run (l := [(0, 1), (1, 1)]) (by kernel_rfl) w
end Go.Proofs.Ytejejmhbhegneaa
namespace Go.Proofs.Ytejejmhbhegneaa
open Go Go.RowKit
variable {G : Mem}
set_option maxHeartbeats 2000000 in
theorem firstOf_fn (v : Value) (vs : List Value) (ls : List (List Int)) (hv : Shows G 1 v vs.length vs) (hL : ShowsLI G vs ls) (hn : vs.length ≤ 1000000) : Fn Try.prog G 8 #[v] (ii (first1 ls)) := by
  have hvl := hL.1
  refine Qf1 Try.func8 ?_
  refine Qs<|Qp<|(Qa)<|Qn<|Qs<|Qs<|Qp<|(Qm)<|(QC hv)<|(Qm)<|Qn<|Qb ?_
  refine QzK [(7, _), (8, _)] [] (fun kk E m => ∃ (i : Nat), kk = vs.length - i ∧ E = [(9, ii i)] ∧ m = [] ∧ (i ≤ vs.length) ∧ (∀ q, q < i → (ls.getD q []).length ≤ 6 ∧ (ls.getD q []).any wrong = false)) ⟨0, rfl, rfl, rfl, by omega, fun _ h => absurd h (Nat.not_lt_zero _)⟩ ⟨rfl, rfl, rfl, trivial⟩ trivial ?_
  rintro kk E m ⟨i, rfl, rfl, rfl, hf0_0, hf0_1⟩
  simp only [catE, catL]
  refine Qs<|Qp<|(Ql)<|Qn<|Qs ?_
  refine e_cond rfl ?_ ?_
  · intro hc0
    have hc0 : i < vs.length := by have := of_decide_eq_true hc0; omega
    refine Qk<|Qs<|Qb<|Qs<|Qp ?_
    refine e_atV hv (Uu 24) (Uz 22) rfl rfl (by omega) rfl ?_
    refine (QS) ?_
    refine e_loadV hv seenG (Uu 22) rfl rfl (get_getD (by omega)) rfl ?_
    refine (Qa)<|Qn<|Qs<|Qs<|Qp<|(Qm)<|(QC (hL.2 i (by omega)))<|(QG)<|Qn ?_
    refine e_cond rfl ?_ ?_
    · intro hc1
      have hc1 := of_decide_eq_true hc1
      rw [first1_at (by omega) hf0_1, first1, if_pos (by omega)]
      refine Qs<|Qp<|(Qa)<|Qn<|Qr ?_
      first | rw [first1_none (fun q hq => hf0_1 q (by omega))] | skip
      exact ⟨_, rfl, .tmp rfl⟩
    · intro hc1
      have hc1 := of_decide_eq_false hc1
      refine Qk<|Qs<|Qp<|(Qm)<|(QC (hL.2 i (by omega)))<|(Qm)<|Qn<|Qb ?_
      refine QzK [(7, _), (8, _), (9, _), (16, _), (17, _)] [] (fun kk E m => ∃ (j : Nat), kk = (ls.getD i []).length - j ∧ E = [(18, ii j)] ∧ m = [] ∧ (j ≤ (ls.getD i []).length) ∧ (∀ p, p < j → wrong ((ls.getD i []).getD p 0) = false)) ⟨0, rfl, rfl, rfl, by omega, fun _ h => absurd h (Nat.not_lt_zero _)⟩ ⟨rfl, rfl, rfl, rfl, rfl, rfl, trivial⟩ trivial ?_
      rintro kk E m ⟨j, rfl, rfl, rfl, hf1_0, hf1_1⟩
      simp only [catE, catL]
      refine Qs<|Qp<|(Ql)<|Qn<|Qs ?_
      refine e_cond rfl ?_ ?_
      · intro hc2
        have hc2 : j < (ls.getD i []).length := by have := of_decide_eq_true hc2; omega
        refine Qk<|Qs<|Qb<|Qs<|Qp ?_
        refine e_atV (hL.2 i (by omega)) (Uu 22) (Uz 3) rfl rfl (by omega) rfl ?_
        refine (QS) ?_
        refine e_loadV (hL.2 i (by omega)) seenG (Uu 3) rfl rfl (iv_at (by omega)) rfl ?_
        refine (Qa)<|Qn<|Qs<|Qp ?_
        refine e_join [(6, _), (7, _), (8, _), (9, _), (16, _), (17, _), (18, _), (19, _), (20, _), (21, _)] [(27, .bool (wrong ((ls.getD i []).getD j 0)))] [] ⟨rfl, rfl, rfl, rfl, rfl, rfl, rfl, rfl, rfl, rfl, trivial⟩ trivial ?_ ?_
        · skip
          refine (Qm)<|(Ql)<|(Qm) ?_
          refine e_case (b := decide ((ls.getD i []).getD j 0 < 1)) (fun hb0 => ?_) (fun hb0 => ?_)
          · skip
            refine (Qo)<|(Qo)<|(QT)<|Qn ?_
            exact ⟨⟨rfl, rfl, rfl, rfl, rfl, rfl, rfl, rfl, rfl, rfl, trivial⟩, ⟨bool_fin (by rw [wrong, hb0] <;> rfl), trivial⟩, trivial⟩
          · skip
            refine (Qy)<|(Qm)<|(Qy)<|(QG)<|(QF)<|Qn ?_
            exact ⟨⟨rfl, rfl, rfl, rfl, rfl, rfl, rfl, rfl, rfl, rfl, trivial⟩, ⟨bool_fin (by rw [wrong, hb0] <;> rfl), trivial⟩, trivial⟩
        · simp only [catE]
          refine e_cond rfl ?_ ?_
          · intro hc3
            rw [first1_at (by omega) hf0_1, first1, if_neg (by omega), any_at (by omega) hc3, if_pos rfl]
            refine Qs<|Qp<|(Qa)<|Qn<|Qr ?_
            first | rw [first1_none (fun q hq => hf0_1 q (by omega))] | skip
            exact ⟨_, rfl, .tmp rfl⟩
          · intro hc3
            have hcf := hc3
            refine Qk<|Qp<|(Q2 1)<|(Qm)<|Qn ?_
            refine QzL ⟨j + 1, rfl, rfl, rfl, by omega, fun p h => by by_cases e : p = j; (subst e; exact hcf); exact hf1_1 p (by omega)⟩ ⟨rfl, rfl, rfl, rfl, rfl, rfl, trivial⟩ trivial ?_
            omega
      · intro hc2
        have hc2 := of_decide_eq_false hc2
        have hz1 : j = (ls.getD i []).length := by omega
        refine Qe<|Qp<|(Q2 1)<|(Qm)<|Qn ?_
        refine QzL ⟨i + 1, rfl, rfl, rfl, by omega, fun q h => by by_cases e : q = i; (subst e; exact ⟨by omega, any_none (fun p hp => hf1_1 p (by omega))⟩); exact hf0_1 q (by omega)⟩ ⟨rfl, rfl, rfl, trivial⟩ trivial ?_
        omega
  · intro hc0
    have hc0 := of_decide_eq_false hc0
    have hz0 : i = vs.length := by omega
    refine Qe<|Qs<|Qp<|(Qa)<|Qn<|Qr ?_
    first | rw [first1_none (fun q hq => hf0_1 q (by omega))] | skip
    exact ⟨_, rfl, .tmp rfl⟩
end Go.Proofs.Ytejejmhbhegneaa
namespace Go.Proofs.Ytejejmhbhegneaa
open Go Go.RowKit
variable {G : Mem}
set_option maxHeartbeats 400000 in
theorem fault_none (base : List Nat) (late : Bool) (vp v0 v1 vt : Value) (tvs : List Value) (hvt : Shows G 1 vt tvs.length tvs) (h : tvs.length = 0) : Fn Try.prog G 5 #[.agg (cells 6 [pV (sv base), pV (.bool late), pV vp, pV v0, pV v1, pV vt])] (ii 1) := by
  refine Qf1 Try.func5 ?_
  refine Qs<|Qp<|(Qh 0) fun r1=>(Qa)<|Qn<|Qs<|Qs<|Qp<|(Qf 5)<|(QV 5 0)<|(QC hvt)<|(Qc)<|(Qat)<|(Qm)<|(Qo)<|(Qo)<|(Qo)<|(Qo)<|(QT)<|Qn<|(Qct)<|Qs<|Qp<|(Qa)<|Qn<|Qr ?_
  exact ⟨_, rfl, .tmp rfl⟩
set_option maxHeartbeats 400000 in
theorem fault_many (base : List Nat) (late : Bool) (vp v0 v1 vt : Value) (tvs : List Value) (hvt : Shows G 1 vt tvs.length tvs) (h : 5 < tvs.length) : Fn Try.prog G 5 #[.agg (cells 6 [pV (sv base), pV (.bool late), pV vp, pV v0, pV v1, pV vt])] (ii 1) := by
  refine Qf1 Try.func5 ?_
  refine Qs<|Qp<|(Qh 0) fun r1=>(Qa)<|Qn<|Qs<|Qs<|Qp<|(Qf 5)<|(QV 5 0)<|(QC hvt)<|(Qc)<|(Qaf)<|(Qm)<|(Qy)<|(Qf 5)<|(Qy)<|(QV 5 0)<|(Qy)<|(QC hvt)<|(Qy)<|(QG)<|(Qat)<|(QF)<|Qn<|(Qct)<|Qs<|Qp<|(Qa)<|Qn<|Qr ?_
  exact ⟨_, rfl, .tmp rfl⟩
set_option maxHeartbeats 2000000 in
theorem fault_first (base : List Nat) (late : Bool) (vp v0 v1 vt : Value) (tvs : List Value) (p0 p1 : List Int) (ts : List (List Int)) (f : Nat) (hvt : Shows G 1 vt tvs.length tvs) (hLI : ShowsLI G (v0 :: v1 :: tvs) (p0 :: p1 :: ts)) (hn1 : 1 ≤ tvs.length) (hn5 : tvs.length ≤ 5) (hf : first1 (p0 :: p1 :: ts) = f) (hf0 : f ≠ 0) : Fn Try.prog G 5 #[.agg (cells 6 [pV (sv base), pV (.bool late), pV vp, pV v0, pV v1, pV vt])] (ii f) := by
  have hT := li_tail (li_tail hLI)
  have hv0 : Shows G 1 v0 p0.length (p0.map iv) := hLI.2 0 (by simp)
  have hv1 : Shows G 1 v1 p1.length (p1.map iv) := hLI.2 1 (by simp)
  refine Qf1 Try.func5 ?_
  refine Qs<|Qp<|(Qh 0) fun r1=>(Qa)<|Qn<|Qs<|Qs<|Qp<|(Qf 5)<|(QV 5 0)<|(QC hvt)<|(Qc)<|(Qaf)<|(Qm)<|(Qy)<|(Qf 5)<|(Qy)<|(QV 5 0)<|(Qy)<|(QC hvt)<|(Qy)<|(QG)<|(Qaf)<|(QF)<|Qn<|(Qcf)<|Qk<|Qs<|Qp<|(Qa)<|Qn<|Qs<|Qs<|Qp<|(Qf 3)<|(QA 3 0)<|(QV 3 0)<|(Qf 3)<|(QA 4 1)<|(QV 4 0) ?_
  refine e_buildSl 1 #[v0, v1] (Uu 24 rfl) (Uz 22 rfl) (Ub 22 rfl) (by decide) (by decide) rfl (fill_ones [v0, v1] 0 _ (by intro v hv; simp only [List.mem_cons, List.not_mem_nil, or_false] at hv; rcases hv with rfl | rfl; exact shows_one hv0; exact shows_one hv1) (by simp)) rfl fun r2 => ?_
  refine (Qf 5)<|(QV 5 0) ?_
  refine e_append 1 own_two hvt rfl seenG (Uu 24) (Uz 22) (Uy 22) (Ub 22) (by rfl) rfl rfl (li_one hT) (by simp only [maxLen]; omega) (by omega) rfl fun v2_1 oz2_1 ho2_1 => ?_
  refine e_callS rfl rfl (Un 8) (seen_app (seenM 1 rfl ⟨[], trivial⟩) seenG) (firstOf_fn (G := oz2_1.toList ++ G) _ (v0 :: v1 :: tvs) (p0 :: p1 :: ts) (Shows.mono (OwnS.shows (own_fix ho2_1 (show _ = (v0 :: v1 :: tvs).length by simp; omega) rfl)) (fun x h => List.mem_append_left _ h)) (li_mono hLI (fun x h => List.mem_append_right _ h)) (by simp; omega)) rfl rfl ?_
  refine e_as (congrArg ii hf) ?_
  refine (Qa)<|Qn<|Qs<|Qp<|(Qm)<|(QN)<|(Qat)<|Qn<|(Qct)<|Qs<|Qp<|(Qm)<|(Qa)<|Qn<|Qr ?_
  exact ⟨_, rfl, .tmp rfl⟩
end Go.Proofs.Ytejejmhbhegneaa
namespace Go.Proofs.Ytejejmhbhegneaa
open Go Go.RowKit
variable {G : Mem}
set_option maxHeartbeats 400000 in
theorem happened_fn (v : Value) (l : List Ev) (who tok : Int) (hv : Shows G 2 v l.length (l.flatMap evC)) (hl : l.length ≤ 1000000) : Fn Try.prog G 9 #[v, .int .i64 who, .int .i64 tok] (.bool (hap l who tok)) := by
  refine Qf1 Try.func9 ?_
  refine Qs<|Qp<|(Qa)<|Qn<|Qs<|Qs<|Qp<|(Qm)<|(QC hv)<|(Qm)<|Qn<|Qb ?_
  refine QzK [(1, _), (2, _), (9, _), (10, _)] [] (fun kk E m => ∃ (i : Nat), kk = l.length - i ∧ E = [(11, ii i)] ∧ m = [] ∧ (i ≤ l.length) ∧ (∀ j (hj : j < l.length), j < i → hit who tok l[j] = false)) ⟨0, rfl, rfl, rfl, by omega, fun _ _ h => absurd h (Nat.not_lt_zero _)⟩ ⟨rfl, rfl, rfl, rfl, rfl, trivial⟩ trivial ?_
  rintro kk E m ⟨i, rfl, rfl, rfl, hf0_0, hf0_1⟩
  simp only [catE, catL]
  refine Qs<|Qp<|(Ql)<|Qn<|Qs ?_
  refine e_cond rfl ?_ ?_
  · intro hc0
    have hc0 : i < l.length := by have := of_decide_eq_true hc0; omega
    refine Qk<|Qs<|Qb<|Qs<|Qp ?_
    refine e_atV hv (Uu 31) (Uz 34) rfl rfl (by omega) rfl ?_
    refine e_loadVS hv seenG (Uu 34) rfl (Uz 34) rfl (by decide) (by rw [ev_len]; omega) (ev_at (by omega)) rfl ?_
    refine e_as (congrArg Value.agg (evC_arr l[i])) ?_
    refine (QH 0) fun r1=>(Qt 0)<|Qn<|Qs<|Qp ?_
    refine e_join [(1, _), (2, _), (8, _), (9, _), (10, _), (11, _), (12, _), (13, _), (14, _)] [(28, .bool (hit who tok l[i]))] [(0, some _)] ⟨rfl, rfl, rfl, rfl, rfl, rfl, rfl, rfl, rfl, trivial⟩ ⟨rfl, trivial⟩ ?_ ?_
    · skip
      refine (Qf 1)<|(Q1 0)<|(Qm)<|(Qc)<|(Qm) ?_
      refine e_case (b := decide ((l[i].2 : Int) = tok)) (fun hb0 => ?_) (fun hb0 => ?_)
      · skip
        refine (Qy)<|(Qm)<|(Qy)<|(Ql)<|(Qy)<|(Qm) ?_
        refine e_case (b := decide (who < 0)) (fun hb1 => ?_) (fun hb1 => ?_)
        · skip
          refine (Qo)<|(Qo)<|(Qo)<|(Qo)<|(Qy)<|(QT)<|(QT)<|Qn ?_
          exact ⟨⟨rfl, rfl, rfl, rfl, rfl, rfl, rfl, rfl, rfl, trivial⟩, ⟨bool_fin (by simp [hit, hb0, hb1]), trivial⟩, ⟨rfl, trivial⟩⟩
        · skip
          refine (Qy)<|(Qf 0)<|(Qy)<|(Q1 0) ?_
          refine e_as (show _ = ii l[i].1 from rfl) ?_
          refine (Qy)<|(Qm)<|(Qy)<|(Qc)<|(Qy)<|(QF)<|(QT)<|Qn ?_
          exact ⟨⟨rfl, rfl, rfl, rfl, rfl, rfl, rfl, rfl, rfl, trivial⟩, ⟨bool_fin (by simp [hit, hb0, hb1]), trivial⟩, ⟨rfl, trivial⟩⟩
      · skip
        refine (Qo)<|(Qo)<|(Qo)<|(Qw)<|(Qw)<|(Qw)<|(Qw)<|(Qo)<|(QF)<|Qn ?_
        exact ⟨⟨rfl, rfl, rfl, rfl, rfl, rfl, rfl, rfl, rfl, trivial⟩, ⟨bool_fin (by simp [hit, hb0]), trivial⟩, ⟨rfl, trivial⟩⟩
    · simp only [catE]
      refine e_cond rfl ?_ ?_
      · intro hc1
        rw [hap_hit (by omega) hc1]
        refine Qs<|Qp<|(Qa)<|Qn<|Qr ?_
        first | rw [hap_none (fun j hj => hf0_1 j hj (by omega))] | skip
        exact ⟨_, rfl, .tmp rfl⟩
      · intro hc1
        have hcf := hc1
        refine Qk<|Qp<|(Q2 1)<|(Qm)<|Qn ?_
        refine QzL ⟨i + 1, rfl, rfl, rfl, by omega, fun j hj h => by by_cases e : j = i; (subst e; exact hcf); exact hf0_1 j hj (by omega)⟩ ⟨rfl, rfl, rfl, rfl, rfl, trivial⟩ trivial ?_
        omega
  · intro hc0
    have hc0 := of_decide_eq_false hc0
    have hz0 : i = l.length := by omega
    refine Qe<|Qs<|Qp<|(Qa)<|Qn<|Qr ?_
    first | rw [hap_none (fun j hj => hf0_1 j hj (by omega))] | skip
    exact ⟨_, rfl, .tmp rfl⟩
end Go.Proofs.Ytejejmhbhegneaa
namespace Go.Proofs.Ytejejmhbhegneaa
open Go Go.RowKit
variable {G : Mem}
set_option maxHeartbeats 400000 in
theorem anyOf_fn (r : Nat) (v : Value) (l : List Ev) (t : Int) (hv : Shows G 2 v l.length (l.flatMap evC)) (hl : l.length ≤ 1000000) : Fn Try.prog ((⟨r, v.cells, 31⟩ : Blk) :: G) 13 #[.int .i64 t, ptr r] (.bool (hap l (-1) t)) := by
  refine Qf1 Try.func13 ?_
  refine Qs<|Qp<|(Qa)<|Qn<|Qs<|Qp ?_
  refine e_load1g (i := 0) (Uu 31) rfl rfl rfl (cell_one (shows_one hv)) rfl ?_
  refine (Qm) ?_
  refine e_call rfl (Un 9) (happened_fn v l (-1) t (hv.mono (fun x h => List.mem_cons_of_mem _ h)) hl) rfl rfl ?_
  refine (Qa)<|Qn<|Qr ?_
  exact ⟨_, rfl, .tmp rfl⟩
set_option maxHeartbeats 2000000 in
theorem mayLock_fn (v : Value) (l : List Ev) (who : Int) (hv : Shows G 2 v l.length (l.flatMap evC)) (hl : l.length ≤ 1000000) : Fn Try.prog G 10 #[v, .int .i64 who] (.bool (mlock l who)) := by
  refine Qf1 Try.func10 ?_
  refine Qs<|Qp<|(Qh 0) fun r1=>(Qa)<|Qn<|Qs<|Qp<|(QY)<|(Qa)<|Qn<|Qs<|Qs<|Qp ?_
  refine e_join [(0, _), (1, _), (2, _), (4, _), (5, _), (8, _)] [(16, .bool (hap l (-1) 7 && !(hap l who 1)))] [(0, some _)] ⟨rfl, rfl, rfl, rfl, rfl, rfl, trivial⟩ ⟨rfl, trivial⟩ ?_ ?_
  · skip
    refine (Qm) ?_
    refine e_callS rfl rfl (Un 13) (seen_cons 0 rfl) (anyOf_fn r1 v l 7 hv hl) rfl rfl ?_
    refine (Qm) ?_
    refine e_case (b := hap l (-1) 7) (fun hb0 => ?_) (fun hb0 => ?_)
    · skip
      refine (Qy) ?_
      refine e_load1 (i := 0) (Uu 31) rfl rfl rfl (cell_one (shows_one hv)) rfl ⟨[], trivial⟩ ?_
      refine (Qy)<|(Qm)<|(Qy) ?_
      refine e_call rfl (Un 9) (happened_fn v l who 1 hv hl) rfl rfl ?_
      refine (Qy)<|(Q0)<|(QT)<|Qn ?_
      exact ⟨⟨rfl, rfl, rfl, rfl, rfl, rfl, trivial⟩, ⟨bool_fin (by simp [hb0]), trivial⟩, ⟨rfl, trivial⟩⟩
    · skip
      refine (Qo)<|(Qo)<|(Qo)<|(Qo)<|(QF)<|Qn ?_
      exact ⟨⟨rfl, rfl, rfl, rfl, rfl, rfl, trivial⟩, ⟨bool_fin (by simp [hb0]), trivial⟩, ⟨rfl, trivial⟩⟩
  · simp only [catE]
    refine e_cond rfl ?_ ?_
    · intro hc0
      rw [show mlock l who = false by rw [mlock, hc0]; rfl]
      refine Qs<|Qp<|(Qa)<|Qn<|Qr ?_
      exact ⟨_, rfl, .tmp rfl⟩
    · intro hc0
      have hm : mlock l who = ((!(hap l (-1) (mown who)) || hap l (-1) 3) && (!(hap l (-1) 6) || hap l (-1) (mfre who))) := by rw [mlock, hc0]; rfl
      rw [hm]
      refine Qk<|Qs<|Qp<|(Qa)<|(Qa)<|Qn<|Qs<|Qs<|Qp<|(Qm)<|(Qc)<|Qn ?_
      refine s_join [(0, _), (1, _), (2, _), (4, _), (5, _), (8, _), (16, _), (17, _), (18, _)] [(6, ii (mown who)), (7, ii (mfre who))] [(0, some _)] ⟨rfl, rfl, rfl, rfl, rfl, rfl, rfl, rfl, rfl, trivial⟩ ⟨rfl, trivial⟩ ?_ ?_
      · skip
        refine e_cond rfl ?_ ?_
        · intro hc1
          have hc1 := of_decide_eq_true hc1
          refine Qp<|(Qa)<|(Qa)<|Qn ?_
          exact ⟨⟨rfl, rfl, rfl, rfl, rfl, rfl, rfl, rfl, rfl, trivial⟩, ⟨(by first | rw [mown, if_pos (by assumption)]; rfl | rw [mown, if_neg (by assumption)]; rfl), (by first | rw [mfre, if_pos (by assumption)]; rfl | rw [mfre, if_neg (by assumption)]; rfl), trivial⟩, ⟨rfl, trivial⟩⟩
        · intro hc1
          have hc1 := of_decide_eq_false hc1
          refine Qk ?_
          exact ⟨⟨rfl, rfl, rfl, rfl, rfl, rfl, rfl, rfl, rfl, trivial⟩, ⟨(by first | rw [mown, if_pos (by assumption)]; rfl | rw [mown, if_neg (by assumption)]; rfl), (by first | rw [mfre, if_pos (by assumption)]; rfl | rw [mfre, if_neg (by assumption)]; rfl), trivial⟩, ⟨rfl, trivial⟩⟩
      · simp only [catE]
        refine Qs<|Qp ?_
        refine e_join [(0, _), (1, _), (2, _), (5, _), (6, _), (7, _), (8, _), (16, _), (17, _), (18, _)] [(4, .bool ((!(hap l (-1) (mown who)) || hap l (-1) 3) && (!(hap l (-1) 6) || hap l (-1) (mfre who))))] [(0, some _)] ⟨rfl, rfl, rfl, rfl, rfl, rfl, rfl, rfl, rfl, rfl, trivial⟩ ⟨rfl, trivial⟩ ?_ ?_
        · skip
          refine (Qm)<|(Qm) ?_
          refine e_callS rfl rfl (Un 13) (seen_cons 0 rfl) (anyOf_fn r1 v l (mown who) hv hl) rfl rfl ?_
          refine (Q0)<|(Qm) ?_
          refine e_case (b := !(hap l (-1) (mown who))) (fun hb1 => ?_) (fun hb1 => ?_)
          · skip
            refine (Qo)<|(Qo)<|(QT)<|(Qm)<|(Qy)<|(Qm)<|(Qy) ?_
            refine e_callS rfl rfl (Un 13) (seen_cons 0 rfl) (anyOf_fn r1 v l 6 hv hl) rfl rfl ?_
            refine (Qy)<|(Q0)<|(Qy)<|(Qm) ?_
            refine e_case (b := !(hap l (-1) 6)) (fun hb2 => ?_) (fun hb2 => ?_)
            · skip
              refine (Qo)<|(Qo)<|(Qo)<|(Qy)<|(QT)<|(QT)<|(Qa)<|Qn ?_
              exact ⟨⟨rfl, rfl, rfl, rfl, rfl, rfl, rfl, rfl, rfl, rfl, trivial⟩, ⟨bool_fin (by simp [hb1, hb2]), trivial⟩, ⟨rfl, trivial⟩⟩
            · skip
              refine (Qy)<|(Qm)<|(Qy)<|(Qm)<|(Qy) ?_
              refine e_callS rfl rfl (Un 13) (seen_cons 0 rfl) (anyOf_fn r1 v l (mfre who) hv hl) rfl rfl ?_
              refine (Qy)<|(QF)<|(QT)<|(Qa)<|Qn ?_
              exact ⟨⟨rfl, rfl, rfl, rfl, rfl, rfl, rfl, rfl, rfl, rfl, trivial⟩, ⟨bool_fin (by simp [hb1, hb2]), trivial⟩, ⟨rfl, trivial⟩⟩
          · skip
            refine (Qy)<|(Qm)<|(Qy) ?_
            refine e_callS rfl rfl (Un 13) (seen_cons 0 rfl) (anyOf_fn r1 v l 3 hv hl) rfl rfl ?_
            refine (QF)<|(Qm) ?_
            refine e_case (b := hap l (-1) 3) (fun hb3 => ?_) (fun hb3 => ?_)
            · skip
              refine (Qy)<|(Qm)<|(Qy) ?_
              refine e_callS rfl rfl (Un 13) (seen_cons 0 rfl) (anyOf_fn r1 v l 6 hv hl) rfl rfl ?_
              refine (Qy)<|(Q0)<|(Qy)<|(Qm) ?_
              refine e_case (b := !(hap l (-1) 6)) (fun hb4 => ?_) (fun hb4 => ?_)
              · skip
                refine (Qo)<|(Qo)<|(Qo)<|(Qy)<|(QT)<|(QT)<|(Qa)<|Qn ?_
                exact ⟨⟨rfl, rfl, rfl, rfl, rfl, rfl, rfl, rfl, rfl, rfl, trivial⟩, ⟨bool_fin (by simp [hb1, hb3, hb4]), trivial⟩, ⟨rfl, trivial⟩⟩
              · skip
                refine (Qy)<|(Qm)<|(Qy)<|(Qm)<|(Qy) ?_
                refine e_callS rfl rfl (Un 13) (seen_cons 0 rfl) (anyOf_fn r1 v l (mfre who) hv hl) rfl rfl ?_
                refine (Qy)<|(QF)<|(QT)<|(Qa)<|Qn ?_
                exact ⟨⟨rfl, rfl, rfl, rfl, rfl, rfl, rfl, rfl, rfl, rfl, trivial⟩, ⟨bool_fin (by simp [hb1, hb3, hb4]), trivial⟩, ⟨rfl, trivial⟩⟩
            · skip
              refine (Qo)<|(Qo)<|(Qo)<|(Qo)<|(Qw)<|(Qw)<|(Qw)<|(Qo)<|(QF)<|(Qa)<|Qn ?_
              exact ⟨⟨rfl, rfl, rfl, rfl, rfl, rfl, rfl, rfl, rfl, rfl, trivial⟩, ⟨bool_fin (by simp [hb1, hb3]), trivial⟩, ⟨rfl, trivial⟩⟩
        · simp only [catE]
          refine Qr ?_
          exact ⟨_, rfl, .tmp rfl⟩
end Go.Proofs.Ytejejmhbhegneaa
