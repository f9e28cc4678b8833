import Derived.Test.YtfldnikepdbgkaaKt2
import Derived.Lib.Bytealg
import Derived.Lib.IndexEntry
import Derived.Lib.Join
namespace Go.Proofs.Ytfldnikepdbgkaa
open Go Go.ChangeShapes Go.WideShapes Go.ChangeAt Go.RowKit
section
variable {P : Program} {G : Mem}
theorem rep_array {t e : TypeId} {n : Nat} {cs : List Value} {d : Dat} (hu : P.underlying t = some (.array n e)) (h : Rep P G t cs d) : ∃ d', cs.length = P.cellsOf t ∧ ∀ i, i < n → Rep P G e ((cs.drop (i * P.cellsOf e)).take (P.cellsOf e)) d' := by
  cases d with
  | zero => exact h.elim
  | succ d => unfold Rep repN at h; rw [hu] at h; exact ⟨d, h⟩
theorem flat_one {α : Type} (f : α → Value) : ∀ l : List α, l.flatMap (fun z => [f z]) = l.map f
  | [] => rfl
  | x :: l => by rw [List.flatMap_cons, flat_one f l]; rfl
theorem rep_ints {t e : TypeId} {cs : List Value} {d : Dat} (hu : P.underlying t = some (.slice e)) (he : P.underlying e = some (.int .i64)) (hc : P.cellsOf e = 1) (h : Rep P G t cs d) : ∃ v, ∃ l : List Int, cs = [v] ∧ Shows G 1 v l.length (l.map iv) ∧ l.length ≤ maxLen ∧ ∀ z ∈ l, (Lit.int .i64 z).wf = true := by
  obtain ⟨d', v, xs, n, rfl, hm, hv, hE⟩ := rep_slice hu h
  rw [hc] at hv hE
  obtain ⟨l, h1, rfl, h3⟩ := rep_elems (fun z => [iv z]) (fun z => (Lit.int .i64 z).wf = true) hv.len (fun cs d h => by
    obtain ⟨z, h1, h2⟩ := rep_int he h
    exact ⟨z, h1, h2⟩) hE
  rw [← h1, flat_one] at hv
  exact ⟨v, l, rfl, hv, by omega, h3⟩
theorem rep_intss {t s e : TypeId} {cs : List Value} {d : Dat} (hu : P.underlying t = some (.slice s)) (hs : P.underlying s = some (.slice e)) (he : P.underlying e = some (.int .i64)) (hcs : P.cellsOf s = 1) (hc : P.cellsOf e = 1) (h : Rep P G t cs d) : ∃ v vs ls, cs = [v] ∧ Shows G 1 v vs.length vs ∧ ShowsLI G vs ls ∧ vs.length ≤ maxLen ∧ ∀ q ∈ ls, q.length ≤ maxLen := by
  obtain ⟨d', v, xs, n, rfl, hm, hv, hE⟩ := rep_slice hu h
  rw [hcs] at hv hE
  obtain ⟨l, h1, rfl, h3⟩ := rep_elems (fun p : Value × List Int => [p.1]) (fun p => Shows G 1 p.1 p.2.length (p.2.map iv) ∧ p.2.length ≤ maxLen) hv.len (fun cs d h => by
    obtain ⟨w, q, h1, h2, h3, _⟩ := rep_ints hs he hc h
    exact ⟨(w, q), h1, h2, h3⟩) hE
  rw [flat_one (fun p : Value × List Int => p.1)] at hv
  refine ⟨v, l.map (·.1), l.map (·.2), rfl, by rw [List.length_map, h1]; exact hv, ⟨by simp, fun i hi => ?_⟩, by rw [List.length_map]; omega, fun q hq => by obtain ⟨x, hx, rfl⟩ := List.mem_map.1 hq; exact (h3 x hx).2⟩
  have hi' : i < l.length := by simpa using hi
  have := (h3 l[i] (List.getElem_mem hi')).1
  simpa [List.getD_eq_getElem?_getD, hi'] using this
theorem rep_pat {t ar sl ss e : TypeId} {cs : List Value} {d : Dat} {f0 f1 f2 f3 f4 : Field} (ht : P.underlying t = some (.struct #[f0, f1, f2, f3, f4])) (hc : P.cellsOf t = 6)
    (o0 : f0.offset = 0) (o1 : f1.offset = 1) (o2 : f2.offset = 2) (o3 : f3.offset = 3) (o4 : f4.offset = 5) (t2 : f2.type = sl) (t3 : f3.type = ar) (t4 : f4.type = ss) (u0 : P.underlying f0.type = some .string) (u1 : P.underlying f1.type = some .bool) (u2 : P.underlying sl = some (.slice e)) (u3 : P.underlying ar = some (.array 2 sl)) (u4 : P.underlying ss = some (.slice sl)) (u5 : P.underlying e = some (.int .i64))
    (c0 : P.cellsOf f0.type = 1) (c1 : P.cellsOf f1.type = 1) (c2 : P.cellsOf sl = 1) (c3 : P.cellsOf ar = 2) (c4 : P.cellsOf ss = 1) (c5 : P.cellsOf e = 1) (h : Rep P G t cs d) :
    ∃ (base : List Nat) (late : Bool) (vp v0 v1 vt : Value) (ps p0 p1 : List Int) (tvs : List Value) (ts : List (List Int)), cs = [sv base, .bool late, vp, v0, v1, vt] ∧ (∀ b ∈ base, b < 256) ∧ base.length ≤ maxLen ∧ (Shows G 1 vp ps.length (ps.map iv) ∧ ps.length ≤ maxLen) ∧ Shows G 1 vt tvs.length tvs ∧ (ShowsLI G (v0 :: v1 :: tvs) (p0 :: p1 :: ts) ∧ tvs.length ≤ maxLen ∧ ∀ q ∈ p0 :: p1 :: ts, q.length ≤ maxLen) := by
  obtain ⟨d', hl, he⟩ := rep_struct ht h
  rw [hc] at hl
  match cs, hl with
  | [w0, w1, w2, w3, w4, w5], _ =>
    have e0 := he 0 f0 rfl
    have e1 := he 1 f1 rfl
    have e2 := he 2 f2 rfl
    have e3 := he 3 f3 rfl
    have e4 := he 4 f4 rfl
    rw [o0, c0] at e0
    rw [o1, c1] at e1
    rw [o2, t2, c2] at e2
    rw [o3, t3, c3] at e3
    rw [o4, t4, c4] at e4
    obtain ⟨base, h0, hb, hm⟩ := rep_str u0 e0
    obtain ⟨late, h1⟩ := rep_bool u1 e1
    obtain ⟨vp, ps, h2, hp, hpm, _⟩ := rep_ints u2 u5 c5 e2
    obtain ⟨vt, tvs, ts, h4, hvt, hT, hTm, hTq⟩ := rep_intss u4 u2 u5 c2 c5 e4
    obtain ⟨d2, _, hee⟩ := rep_array u3 e3
    rw [c2] at hee
    obtain ⟨v0, p0, h5, hv0, hm0, _⟩ := rep_ints u2 u5 c5 (hee 0 (by decide))
    obtain ⟨v1, p1, h6, hv1, hm1, _⟩ := rep_ints u2 u5 c5 (hee 1 (by decide))
    simp at h0 h1 h2 h4 h5 h6
    refine ⟨base, late, vp, v0, v1, vt, ps, p0, p1, tvs, ts, by rw [h0, h1, h2, h4, h5, h6], hb, hm, ⟨hp, hpm⟩, hvt, ⟨by simp [hT.1], fun i hi => ?_⟩, hTm, fun q hq => ?_⟩
    case refine_2 =>
      rcases List.mem_cons.1 hq with rfl | hq
      · exact hm0
      rcases List.mem_cons.1 hq with rfl | hq
      · exact hm1
      · exact hTq q hq
    match i with
    | 0 => exact hv0
    | 1 => exact hv1
    | i + 2 => exact hT.2 i (by simpa using hi)
end
section
variable {P : Program} {H : Type} {enc : TypeId × Value → H}
theorem open_pat {W : World} {b0 bs : Nat} {s : Nat → Bool} {held : Bool} {t ar sl ss e : TypeId} {v : Value} {d : DataW H} {ms : List MemPlace} {f0 f1 f2 f3 f4 : Field} {cts : List TypeId} (L : List TypeId) (hL : closedT P L = true) (htL : t ∈ L) (ht : P.underlying t = some (.struct #[f0, f1, f2, f3, f4])) (hct : P.cellTypes P.depth t = some cts) (hcl : P.cellsOf t = cts.length) (hc : P.cellsOf t = 6)
    (o0 : f0.offset = 0) (o1 : f1.offset = 1) (o2 : f2.offset = 2) (o3 : f3.offset = 3) (o4 : f4.offset = 5) (t2 : f2.type = sl) (t3 : f3.type = ar) (t4 : f4.type = ss) (u0 : P.underlying f0.type = some .string) (u1 : P.underlying f1.type = some .bool) (u2 : P.underlying sl = some (.slice e)) (u3 : P.underlying ar = some (.array 2 sl)) (u4 : P.underlying ss = some (.slice sl)) (u5 : P.underlying e = some (.int .i64))
    (c0 : P.cellsOf f0.type = 1) (c1 : P.cellsOf f1.type = 1) (c2 : P.cellsOf sl = 1) (c3 : P.cellsOf ar = 2) (c4 : P.cellsOf ss = 1) (c5 : P.cellsOf e = 1) (hval : Value.okWide P W .any b0 t v) (hd : DataW.Trod enc P W bs s held t v d ms) :
    ∃ (G : Mem) (base : List Nat) (late : Bool) (vp v0 v1 vt : Value) (ps p0 p1 : List Int) (tvs : List Value) (ts : List (List Int)), v = .agg (cells 6 [pV (sv base), pV (.bool late), pV vp, pV v0, pV v1, pV vt]) ∧ MemR G W ∧ (∀ b ∈ base, b < 256) ∧ base.length ≤ maxLen ∧ (Shows G 1 vp ps.length (ps.map iv) ∧ ps.length ≤ maxLen) ∧ Shows G 1 vt tvs.length tvs ∧ (ShowsLI G (v0 :: v1 :: tvs) (p0 :: p1 :: ts) ∧ tvs.length ≤ maxLen ∧ ∀ q ∈ p0 :: p1 :: ts, q.length ≤ maxLen) := by
  obtain ⟨x, G, hx, hG⟩ := rep_open L hL htL hd
  obtain ⟨cs, rfl, _, _⟩ := open_cells ht hct hcl hval
  obtain ⟨base, late, vp, v0, v1, vt, ps, p0, p1, tvs, ts, h1, h2, h3, h4, h5, h6⟩ := rep_pat ht hc o0 o1 o2 o3 o4 t2 t3 t4 u0 u1 u2 u3 u4 u5 c0 c1 c2 c3 c4 c5 hx
  have e : cs = cells 6 [pV (sv base), pV (.bool late), pV vp, pV v0, pV v1, pV vt] := by
    apply Array.ext'
    have h1' : cs.toList = [sv base, .bool late, vp, v0, v1, vt] := h1
    rw [h1']; rfl
  exact ⟨G, base, late, vp, v0, v1, vt, ps, p0, p1, tvs, ts, by rw [e], hG, h2, h3, h4, h5, h6⟩
end
theorem wrong_no {l : List Int} (h : l.any wrong = false) : l = ci (l.map Int.toNat) := by
  rw [List.any_eq_false] at h
  unfold ci
  rw [List.map_map]
  conv => lhs; rw [← List.map_id l]
  refine List.map_congr_left fun x hx => ?_
  have := h x hx
  simp [wrong] at this
  show x = ((x.toNat : Nat) : Int)
  omega
theorem first1_zero : ∀ {ls : List (List Int)}, first1 ls = 0 → ∀ t ∈ ls, t.length ≤ 6 ∧ t.any wrong = false
  | t :: r, h, x, hx => by
    rw [first1] at h
    by_cases h6 : 6 < t.length
    · rw [if_pos h6] at h; cases h
    · rw [if_neg h6] at h
      cases hw : t.any wrong with
      | true => rw [hw, if_pos rfl] at h; cases h
      | false =>
        rw [hw, if_neg (by decide)] at h
        rcases List.mem_cons.1 hx with rfl | hx
        · exact ⟨by omega, hw⟩
        · exact first1_zero h x hx
def pfault (late : Bool) (p0 p1 : List Int) (ts : List (List Int)) : Nat :=
  if ts.length = 0 ∨ 5 < ts.length then 1 else if first1 (p0 :: p1 :: ts) = 0 then fin3 (evL late (p0.map Int.toNat) (p1.map Int.toNat) (ts.map fun t => t.map Int.toNat)) else first1 (p0 :: p1 :: ts)
end Go.Proofs.Ytfldnikepdbgkaa
namespace Go.Proofs.Ytfldnikepdbgkaa
open Go Go.RowKit
end Go.Proofs.Ytfldnikepdbgkaa
namespace Go.Proofs.Ytfldnikepdbgkaa
open Go Go.RowKit
def asp (b : Nat) : Nat := if b = 32 ∨ (9 ≤ b ∧ b ≤ 13) then 1 else 0
end Go.Proofs.Ytfldnikepdbgkaa
namespace Go.Proofs.Ytfldnikepdbgkaa
open Go Go.RowKit
end Go.Proofs.Ytfldnikepdbgkaa
namespace Go.Proofs.Ytfldnikepdbgkaa
open Go Go.RowKit
theorem shows_oneC {B : Mem} {z n : Nat} {v : Value} {xs : List Value} (h : Shows B z v n xs) : v.oneCell' = true := by
  rcases h with ⟨_, _, oa, c, rfl, _⟩ | ⟨b, o, c, cs, t, rfl, _⟩ <;> rfl
end Go.Proofs.Ytfldnikepdbgkaa
namespace Go.Proofs.Ytfldnikepdbgkaa
open Go Go.RowKit
end Go.Proofs.Ytfldnikepdbgkaa
namespace Go.Proofs.Ytfldnikepdbgkaa
open Go Go.ChangeShapes Go.WideShapes Go.ChangeAt Go.RowKit
structure TT where
  kind : Int
  id : Int
  other : Int
  args : List TT
theorem TT.ind {p : TT → Prop} (h : ∀ t : TT, (∀ a ∈ t.args, p a) → p t) (t : TT) : p t :=
  TT.rec (motive_1 := p) (motive_2 := fun l => ∀ a ∈ l, p a) (fun k i o l hl => h ⟨k, i, o, l⟩ hl) (by simp) (fun a l h1 h2 b hb => by rcases List.mem_cons.1 hb with rfl | hb; exact h1; exact h2 b hb) t
def TT.nodes : TT → Nat
  | ⟨_, _, _, l⟩ => 1 + (l.map TT.nodes).sum
abbrev nodesL (l : List TT) : Nat := (l.map TT.nodes).sum
def mx : List Nat → Nat
  | [] => 0
  | x :: l => max x (mx l)
def TT.deep : TT → Nat
  | ⟨_, _, _, l⟩ => 1 + mx (l.map TT.deep)
abbrev deepL (l : List TT) : Nat := mx (l.map TT.deep)
def TV (G : Mem) : TT → Value → Prop
  | ⟨k, i, o, l⟩, v => ∃ c xs, v = .agg #[iv k, iv i, iv o, c] ∧ l.length ≤ maxLen ∧ Shows G 4 c l.length xs ∧ ∀ a, a ∈ l → ∀ j, l[j]? = some a → TV G a (.agg ((xs.drop (j * 4)).take 4).toArray)
abbrev tC (t : TT) (c : Value) : Array Value := cells 4 [pV (iv t.kind), pV (iv t.id), pV (iv t.other), pV c]
def TL (G : Mem) (l : List TT) (c : Value) (xs : List Value) : Prop := l.length ≤ maxLen ∧ Shows G 4 c l.length xs ∧ ∀ j (h : j < l.length), TV G l[j] (.agg ((xs.drop (j * 4)).take 4).toArray)
theorem TV_iff {G : Mem} {t : TT} {v : Value} : TV G t v ↔ ∃ c xs, v = .agg #[iv t.kind, iv t.id, iv t.other, c] ∧ TL G t.args c xs := by
  cases t
  rw [TV]
  constructor
  · rintro ⟨c, xs, e, h1, h2, h3⟩
    exact ⟨c, xs, e, h1, h2, fun j hj => h3 _ (List.getElem_mem hj) j (List.getElem?_eq_getElem hj)⟩
  · rintro ⟨c, xs, e, h1, h2, h3⟩
    refine ⟨c, xs, e, h1, h2, fun a _ j hj => ?_⟩
    obtain ⟨hj', rfl⟩ := List.getElem?_eq_some_iff.1 hj
    exact h3 j hj'
theorem TV.mono {G G' : Mem} (hs : ∀ x ∈ G, x ∈ G') {t : TT} : ∀ {v : Value}, TV G t v → TV G' t v := by
  refine TT.ind (p := fun t => ∀ {v : Value}, TV G t v → TV G' t v) (fun t ih v h => ?_) t
  obtain ⟨c, xs, e, h1, h2, h3⟩ := TV_iff.1 h
  exact TV_iff.2 ⟨c, xs, e, h1, h2.mono hs, fun j hj => ih _ (List.getElem_mem hj) (h3 j hj)⟩
theorem TL.mono {G G' : Mem} (hs : ∀ x ∈ G, x ∈ G') {l : List TT} {c : Value} {xs : List Value} (h : TL G l c xs) : TL G' l c xs :=
  ⟨h.1, h.2.1.mono hs, fun j hj => (h.2.2 j hj).mono hs⟩
theorem TL.at {G : Mem} {l : List TT} {c : Value} {xs : List Value} (h : TL G l c xs) {j : Nat} (hj : j < l.length) : ∃ c' ys, (xs.drop (j * 4)).take 4 = [iv l[j].kind, iv l[j].id, iv l[j].other, c'] ∧ TL G l[j].args c' ys := by
  obtain ⟨c', ys, e, hl⟩ := TV_iff.1 (h.2.2 j hj)
  refine ⟨c', ys, ?_, hl⟩
  have := congrArg (fun v => match v with | .agg a => a.toList | _ => []) e
  simpa using this
theorem tl_nil {G : Mem} : TL G [] nilS [] := ⟨by simp [maxLen], .inl ⟨rfl, rfl, none, 0, rfl, fun _ => rfl⟩, fun j hj => absurd hj (Nat.not_lt_zero j)⟩
def wdt (k : Int) : Nat := if k = 5 then 1 else if k = 4 ∨ k = 6 then 2 else if k = 7 then 3 else 0
def numB (k i o : Int) : Bool := if k = 3 then decide (0 ≤ i) && decide (i ≤ o) else if k = 1 ∨ k = 2 ∨ k = 6 then decide (0 ≤ i) && decide (o = 0) else decide (i = 0) && decide (o = 0)
def fst1 : List Nat → Nat
  | [] => 0
  | x :: l => if x = 0 then fst1 l else x
def TT.form : TT → Nat
  | ⟨k, i, o, l⟩ => if k < 1 ∨ 7 < k then 2 else if l.length ≠ wdt k ∨ numB k i o = false then 3 else fst1 (l.map TT.form)
abbrev formL (l : List TT) : Nat := fst1 (l.map TT.form)
theorem form_eq (t : TT) : t.form = if t.kind < 1 ∨ 7 < t.kind then 2 else if t.args.length ≠ wdt t.kind ∨ numB t.kind t.id t.other = false then 3 else formL t.args := by cases t; rw [TT.form]
theorem fst1_none : ∀ {l : List Nat}, (∀ j (h : j < l.length), l[j] = 0) → fst1 l = 0
  | [], _ => rfl
  | x :: l, h => by rw [fst1, if_pos (show x = 0 from h 0 (by simp))]; exact fst1_none fun j hj => h (j + 1) (by simpa using hj)
theorem formL_none {l : List TT} (h : ∀ j (h : j < l.length), l[j].form = 0) : formL l = 0 := fst1_none fun j hj => by simpa using h j (by simpa using hj)
def allB : List (TT → Bool) → List TT → Bool
  | [], [] => true
  | f :: l, u :: m => f u && allB l m
  | _, _ => false
def TT.eqb : TT → TT → Bool
  | ⟨k, i, o, l⟩, u => decide (k = u.kind) && decide (i = u.id) && decide (o = u.other) && allB (l.map fun a => fun x => a.eqb x) u.args
theorem allB_iff : ∀ {l m : List TT}, (∀ a ∈ l, ∀ u : TT, a.eqb u = true ↔ a = u) → (allB (l.map fun a => fun x => a.eqb x) m = true ↔ l = m)
  | [], [], _ => by simp [allB]
  | [], _ :: _, _ => by simp [allB]
  | _ :: _, [], _ => by simp [allB]
  | a :: l, b :: m, h => by
    rw [List.map_cons, allB, Bool.and_eq_true, h a (by simp), allB_iff fun x hx => h x (by simp [hx]), List.cons.injEq]
theorem eqb_iff (t : TT) : ∀ u : TT, t.eqb u = true ↔ t = u := by
  refine TT.ind (p := fun t => ∀ u, t.eqb u = true ↔ t = u) (fun t ih u => ?_) t
  obtain ⟨k, i, o, l⟩ := t
  rw [TT.eqb]
  simp only [Bool.and_eq_true, decide_eq_true_eq]
  rw [allB_iff ih]
  cases u
  simp only [TT.mk.injEq, and_assoc]
theorem eqb_self (t : TT) : t.eqb t = true := (eqb_iff t t).2 rfl
def eqbL (l m : List TT) : Bool := decide (l.length = m.length) && (List.range l.length).all (fun j => (l.getD j ⟨0, 0, 0, []⟩).eqb (m.getD j ⟨0, 0, 0, []⟩))
theorem eqbL_iff (l m : List TT) : eqbL l m = true ↔ l = m := by
  unfold eqbL
  simp only [Bool.and_eq_true, decide_eq_true_eq, List.all_eq_true, List.mem_range]
  constructor
  · rintro ⟨h1, h2⟩
    refine List.ext_getElem h1 fun j hj hj' => ?_
    have := h2 j hj
    rw [List.getD_eq_getElem?_getD, List.getElem?_eq_getElem hj, List.getD_eq_getElem?_getD, List.getElem?_eq_getElem hj'] at this
    exact (eqb_iff _ _).1 this
  · rintro rfl
    exact ⟨rfl, fun j _ => eqb_self _⟩
theorem eqbL_all {l m : List TT} (h : l.length = m.length) (h2 : ∀ j (h1 : j < l.length) (h2 : j < m.length), l[j].eqb m[j] = true) : eqbL l m = true :=
  (eqbL_iff l m).2 (List.ext_getElem h fun j h1 h3 => (eqb_iff _ _).1 (h2 j h1 h3))
theorem eqbL_len {l m : List TT} (h : l.length ≠ m.length) : eqbL l m = false := by
  cases e : eqbL l m with
  | false => rfl
  | true => exact absurd (congrArg List.length ((eqbL_iff l m).1 e)) h
theorem eqbL_at {l m : List TT} {j : Nat} (h1 : j < l.length) (h2 : j < m.length) (h : l[j].eqb m[j] = false) : eqbL l m = false := by
  cases e : eqbL l m with
  | false => rfl
  | true =>
    have := (eqbL_iff l m).1 e
    subst this
    rw [eqb_self] at h; cases h
theorem eqb_parts (t u : TT) : t.eqb u = (decide (t.kind = u.kind) && decide (t.id = u.id) && decide (t.other = u.other) && eqbL t.args u.args) := by
  cases e : t.eqb u with
  | true =>
    have := (eqb_iff t u).1 e
    subst this
    rw [(eqbL_iff _ _).2 rfl]; simp
  | false =>
    by_cases h1 : t.kind = u.kind
    · by_cases h2 : t.id = u.id
      · by_cases h3 : t.other = u.other
        · cases h4 : eqbL t.args u.args with
          | false => simp
          | true =>
            have := (eqbL_iff _ _).1 h4
            have : t = u := by cases t; cases u; simp only [TT.mk.injEq] at *; exact ⟨h1, h2, h3, this⟩
            subst this
            rw [eqb_self] at e; cases e
        · rw [decide_eq_false h3]; simp
      · rw [decide_eq_false h2]; simp
    · rw [decide_eq_false h1]; simp
theorem parts_ne {t u : TT} {l q : List TT} (h : (decide (t.kind ≠ u.kind) || (decide (t.id ≠ u.id) || (decide (t.other ≠ u.other) || decide ((l.length : Int) ≠ (q.length : Int))))) = true) : (decide (t.kind = u.kind) && decide (t.id = u.id) && decide (t.other = u.other) && eqbL l q) = false := by
  by_cases h1 : t.kind = u.kind
  · by_cases h2 : t.id = u.id
    · by_cases h3 : t.other = u.other
      · simp only [h1, h2, h3, ne_eq, not_true_eq_false, decide_false, Bool.false_or, decide_eq_true_eq] at h
        rw [eqbL_len (by omega)]; simp
      · rw [decide_eq_false h3]; simp
    · rw [decide_eq_false h2]; simp
  · rw [decide_eq_false h1]; simp
theorem parts_eq {t u : TT} {l q : List TT} (h : (decide (t.kind ≠ u.kind) || (decide (t.id ≠ u.id) || (decide (t.other ≠ u.other) || decide ((l.length : Int) ≠ (q.length : Int))))) = false) : t.kind = u.kind ∧ t.id = u.id ∧ t.other = u.other ∧ l.length = q.length := by
  simp only [Bool.or_eq_false_iff, decide_eq_false_iff_not, ne_eq, Decidable.not_not] at h
  exact ⟨h.1, h.2.1, h.2.2.1, by omega⟩
theorem fill_tC {Z : Array Value} (hZ : Z.size = 4) {t : TT} {c : Value} : Instr.fill (fun i => some (i * 4, 4)) Z [(0, .agg (tC t c))] = some (tC t c) := by
  obtain ⟨p, q, r, s, rfl⟩ : ∃ p q r s, Z = #[p, q, r, s] := by
    rcases Z with ⟨_ | ⟨p, _ | ⟨q, _ | ⟨r, _ | ⟨s, _ | ⟨s2, l⟩⟩⟩⟩⟩⟩
    · simp at hZ
    · simp at hZ
    · simp at hZ
    · simp at hZ
    · exact ⟨p, q, r, s, rfl⟩
    · simp at hZ
  rfl
section
variable {P : Program} {H : Type} {enc : TypeId × Value → H}
end
end Go.Proofs.Ytfldnikepdbgkaa
namespace Go.Proofs.Ytfldnikepdbgkaa
open Go Go.RowKit
section
variable {P : Program} {G : Mem} {R : Reg} {ops : Array Oper} {K : Act → Mem → Prop} {rest : List Oper} {a : Act} {m : Mem} {d : Option Tmp} {ty : TypeId} {pos : String} {aft : Array Edge}
variable {T T' : TypeId} {x y : Operand}
theorem st_storeG {b o i : Nat} {c c' : Array Value} {t : TypeId} (hs : (P.info? T).map (·.size) = some c'.size) (hx : a.eval x = .pointer (some ⟨b, o, none⟩)) (hy : a.eval y = .agg c')
    (hv : ∀ v ∈ c', v.oneCell' = true) (hm : m[i]? = some ⟨b, c, t⟩) (hX : hid R ⟨d, .store T x y, ty, pos, aft, none⟩ b) (ho : o + c'.size ≤ c.size) (h : opsM P G R ops K rest (a.put d undef) (m.set i ⟨b, (c.toList.take o ++ c'.toList ++ c.toList.drop (o + c'.size)).toArray, t⟩)) (hYk : yOk R ⟨d, .store T x y, ty, pos, aft, none⟩ b) : opsM P G R ops K (⟨d, .store T x y, ty, pos, aft, none⟩ :: rest) a m :=
  store_atY hm hX (c.toList.take o ++ c'.toList ++ c.toList.drop (o + c'.size)).toArray (by simp; omega) (fun w hin => by
    have hst := run_storeCells_in (P := P) b o t c'.toList 0 c w hin (by simpa using ho) (fun v h => hv v (by simpa using h))
    have hl : c'.toList.length = c'.size := by simp
    rw [hl, Nat.add_zero, setRow_blk (t := t)] at hst
    cases hi : P.info? T with
    | none => simp [hi] at hs
    | some j =>
      have hsz : j.size = c'.size := by simpa [hi] using hs
      simp only [execOp, Instr.storeAt, hx, hy, Instr.sureAddr, storeVar, sizeOf, typeInfo]
      simp [hi, hsz, Value.cells, hst]) h hYk
end
section
variable {P : Program} {G : Mem} {R : Reg} {ops : Array Oper} {n : Nat} {K : Env → Mm → Prop} {rest : List Oper} {E : Env} {M : Mm} {d : Nat} {ty : TypeId} {pos : String} {aft : Array Edge}
variable {T T' : TypeId} {x y : Operand}
theorem e_stOwnS {i k j z : Nat} {e : TypeId} {v : Value} {c : Array Value} {xs : List Value} {oz : Option Blk} (hown : OwnS e z v k xs oz.toList) (hs : (P.info? T).map (·.size) = some z) (hx : rd E x = some (slAddr v (j * z))) (hy : rd E y = some (.agg c)) (hc : c.size = z) (hw : ∀ u ∈ c, u.oneCell' = true) (hi : lkM M i = oz) (hj : j < k) (hX : R.X = [])
    (h : ∀ oz' : Option Blk, OwnS e z v k (xs.take (j * z) ++ c.toList ++ xs.drop (j * z + z)) oz'.toList → OpsE P G R ops n K rest E ((i, oz') :: M)) (hYk : ∀ b : Blk, lkM M i = some b → ∀ m, FitsM M m → yOk R ⟨none, .store T x y, ty, pos, aft, none⟩ b.b := by first | exact y_none rfl | exact y_none (by assumption)) (hoff : OffL M i R.L := by first | exact trivial | assumption) : OpsE P G R ops n K (⟨none, .store T x y, ty, pos, aft, none⟩ :: rest) E M :=
  fun _ m ha hM => by
    rcases hown with ⟨_, h0, _, _⟩ | ⟨r, cap, cs, rfl, hl, hcp, hm, hz, hxl, ht⟩
    · omega
    · have hoz : oz = some ⟨r, cs, e⟩ := by
        cases oz with
        | none => simp at hl
        | some z => simp at hl; rw [hl]
      subst hoz
      obtain ⟨q, hq⟩ := hM.at hi
      have hm1 : j * z + z ≤ k * z := by rw [← Nat.succ_mul]; exact Nat.mul_le_mul_right _ hj
      have hm2 : k * z ≤ cap * z := Nat.mul_le_mul_right _ hcp
      have hx' : rd E x = some (.pointer (some ⟨r, j * z, none⟩)) := by
        rw [hx]; simp [slAddr]
      have hlen : xs.length = k * z := hxl
      have hck : c.toList.length = z := by simpa using hc
      refine st_storeG (hc ▸ hs) (ha.rd hx') (ha.rd hy) hw hq (hid_off hX (hoff.off hM hi ⟨r, cs, e⟩ (by simp))) (by omega) ?_ (hYk _ hi _ hM)
      refine h (some ⟨r, _, e⟩) (.inr ⟨r, cap, _, rfl, rfl, hcp, hm, ?_, ?_, ?_⟩) _ _ ha (hM.store hi hq _)
      · simp; omega
      · simp; omega
      · have e1 : (cs.toList.take (j * z) ++ c.toList ++ cs.toList.drop (j * z + c.size)).toArray.toList = cs.toList.take (j * z) ++ c.toList ++ cs.toList.drop (j * z + z) := by rw [hc]
        rw [e1]
        have lc : cs.toList.length = cs.size := by simp
        have l1 : (cs.toList.take (j * z)).length = j * z := by rw [List.length_take, lc]; omega
        have l2 : (xs.take (j * z)).length = j * z := by rw [List.length_take]; omega
        have l3 : (cs.toList.take (j * z) ++ c.toList).length = j * z + z := by rw [List.length_append, l1, hck]
        have l4 : (xs.take (j * z) ++ c.toList).length = j * z + z := by rw [List.length_append, l2, hck]
        apply List.ext_getElem?
        intro p
        by_cases hp : p < k * z
        · rw [List.getElem?_take_of_lt hp]
          by_cases h1 : p < j * z
          · rw [List.getElem?_append_left (by rw [l3]; omega), List.getElem?_append_left (by rw [l1]; omega), List.getElem?_append_left (by rw [l4]; omega), List.getElem?_append_left (by rw [l2]; omega), List.getElem?_take_of_lt h1, List.getElem?_take_of_lt h1, ← ht, List.getElem?_take_of_lt hp]
          · by_cases h2 : p < j * z + z
            · rw [List.getElem?_append_left (l₁ := cs.toList.take (j * z) ++ c.toList) (by rw [l3]; omega), List.getElem?_append_right (l₁ := cs.toList.take (j * z)) (by rw [l1]; omega), List.getElem?_append_left (l₁ := xs.take (j * z) ++ c.toList) (by rw [l4]; omega), List.getElem?_append_right (l₁ := xs.take (j * z)) (by rw [l2]; omega), l1, l2]
            · rw [List.getElem?_append_right (l₁ := cs.toList.take (j * z) ++ c.toList) (by rw [l3]; omega), List.getElem?_append_right (l₁ := xs.take (j * z) ++ c.toList) (by rw [l4]; omega), List.getElem?_drop, List.getElem?_drop, l3, l4, ← ht, List.getElem?_take_of_lt (by omega)]
        · rw [List.getElem?_eq_none (by rw [List.length_take]; omega), List.getElem?_eq_none (by rw [List.length_append, l4, List.length_drop]; omega)]
theorem own_fill {e : TypeId} {z : Nat} {v : Value} {xs zs cs : List Value} {k : Nat} {l : Mem} (hx : xs.length = k * z) (hz : zs.length = z) (ho : OwnS e z v (k + 1) ((xs ++ zs).take (k * z) ++ cs ++ (xs ++ zs).drop (k * z + z)) l) : OwnS e z v (k + 1) (xs ++ cs) l := by
  have e1 : (xs ++ zs).take (k * z) = xs := by rw [← hx]; exact List.take_left
  have e2 : (xs ++ zs).drop (k * z + z) = [] := List.drop_eq_nil_of_le (by rw [List.length_append]; omega)
  rw [e1, e2, List.append_nil] at ho
  exact ho
end
theorem swap_mem {α : Type} {a b : α} {l : List α} : ∀ z ∈ a :: b :: l, z ∈ b :: a :: l := fun z hz => by
  simp only [List.mem_cons] at hz ⊢
  rcases hz with h | h | h
  · exact .inr (.inl h)
  · exact .inl h
  · exact .inr (.inr h)
theorem own_app {α : Type} {e : TypeId} {z : Nat} {v : Value} {L : List α} (x : α) {xs : List Value} {l : Mem} (h : OwnS e z v (L.length + 1) xs l) : OwnS e z v (L ++ [x]).length xs l := by
  rw [List.length_append]; exact h
def TO (G : Mem) (L : List TT) (xs : List Value) : Prop := xs.length = L.length * 4 ∧ ∀ j (h : j < L.length), TV G L[j] (.agg ((xs.drop (j * 4)).take 4).toArray)
theorem TO.nil {G : Mem} : TO G [] [] := ⟨rfl, fun j h => absurd h (Nat.not_lt_zero j)⟩
theorem TO.mono {G G' : Mem} (hs : ∀ x ∈ G, x ∈ G') {L : List TT} {xs : List Value} (h : TO G L xs) : TO G' L xs := ⟨h.1, fun j hj => (h.2 j hj).mono hs⟩
theorem TO.app {G : Mem} {L L' : List TT} {xs ys : List Value} (h : TO G L xs) (h' : TO G L' ys) : TO G (L ++ L') (xs ++ ys) := by
  refine ⟨by rw [List.length_append, List.length_append, h.1, h'.1, Nat.add_mul], fun j hj => ?_⟩
  by_cases hl : j < L.length
  · have e : ((xs ++ ys).drop (j * 4)).take 4 = (xs.drop (j * 4)).take 4 := by
      rw [List.drop_append_of_le_length (by rw [h.1]; omega), List.take_append_of_le_length (by rw [List.length_drop, h.1]; omega)]
    rw [e, List.getElem_append_left hl]; exact h.2 j hl
  · have e : ((xs ++ ys).drop (j * 4)).take 4 = (ys.drop ((j - L.length) * 4)).take 4 := by
      rw [List.drop_append, List.drop_eq_nil_of_le (by rw [h.1]; omega), List.nil_append, h.1]
      congr 2; omega
    rw [e, List.getElem_append_right (by omega)]
    exact h'.2 (j - L.length) (by rw [List.length_append] at hj; omega)
theorem to_one {G : Mem} {t : TT} {c : Value} {ys : List Value} (h : TL G t.args c ys) : TO G [t] (tC t c).toList := ⟨rfl, fun j hj => by
  have : j = 0 := by simpa using hj
  subst this
  exact TV_iff.2 ⟨c, ys, rfl, h⟩⟩
theorem TO.tl {G : Mem} {e : TypeId} {L : List TT} {v : Value} {xs : List Value} {l : Mem} (h : TO G L xs) (ho : OwnS e 4 v L.length xs l) (hn : L.length ≤ maxLen) : TL (l ++ G) L v xs :=
  ⟨hn, ho.shows.mono fun _ hx => List.mem_append_left _ hx, fun j hj => (h.2 j hj).mono fun _ hx => List.mem_append_right _ hx⟩
theorem TO.ones {G : Mem} {L : List TT} {xs : List Value} (h : TO G L xs) : ∀ u ∈ xs, u.oneCell' = true := fun u hu => by
  obtain ⟨p, hp, rfl⟩ := List.mem_iff_getElem.1 hu
  have hj : p / 4 < L.length := by rw [h.1] at hp; omega
  obtain ⟨c', ys, e, hl⟩ := TV_iff.1 (h.2 (p / 4) hj)
  have e2 : (xs.drop (p / 4 * 4)).take 4 = [iv L[p / 4].kind, iv L[p / 4].id, iv L[p / 4].other, c'] := by
    have := congrArg (fun v => match v with | .agg a => a.toList | _ => []) e
    simpa using this
  have hg : ((xs.drop (p / 4 * 4)).take 4)[p % 4]? = some xs[p] := by
    rw [List.getElem?_take_of_lt (by omega), List.getElem?_drop, show p / 4 * 4 + p % 4 = p by omega, List.getElem?_eq_getElem hp]
  rw [e2] at hg
  have hm : xs[p] ∈ [iv L[p / 4].kind, iv L[p / 4].id, iv L[p / 4].other, c'] := List.mem_of_getElem? hg
  simp only [List.mem_cons, List.not_mem_nil, or_false] at hm
  rcases hm with h1 | h1 | h1 | h1
  · rw [h1]; rfl
  · rw [h1]; rfl
  · rw [h1]; rfl
  · rw [h1]; exact shows_oneC hl.2.1
end Go.Proofs.Ytfldnikepdbgkaa
namespace Go.Proofs.Ytfldnikepdbgkaa
open Go Go.RowKit
section
variable {P : Program} {G : Mem} {R : Reg} {ops : Array Oper} {n : Nat} {K : Env → Mm → Prop} {Q : Exit → Env → Mm → Prop} {rest : List Oper} {E : Env} {M : Mm} {d : Nat} {ty : TypeId} {pos : String} {aft : Array Edge}
def EndWD2 (P : Program) (b : Nat) (t : TypeId) (S : Value → Value → Array Value → Mem → Prop) (fn : Func) : Exit → Env → Mm → Prop
  | .normal, E, M | .ret, E, M => ∃ r r' v v' c' fz, fn.results = #[r, r'] ∧ Res P E M r v ∧ Res P E M r' v' ∧ S v v' c' fz ∧ (∃ i, Nat.blt i 1000 = true ∧ lkM M i = some ⟨b, c', t⟩) ∧ Bag fz M
  | _, _, _ => False
def EndDV (P : Program) (S : Value → Mem → Prop) (fn : Func) : Exit → Env → Mm → Prop
  | .normal, E, M | .ret, E, M => ∃ r r' v v' fz, fn.results = #[r, r'] ∧ Res P E M r v ∧ Res P E M r' v' ∧ S (.tuple #[v, v']) fz ∧ Bag fz M
  | _, _, _ => False
theorem fxDV {f : FuncId} {fn : Func} {c : Code} {args : Array Value} {S : Value → Mem → Prop} (hf : P.funcs[f]? = some fn) (hb : fn.body = some c) (hn : fn.ntmps = n) (ha : args.size ≤ n) (E : Env) (hE : ∀ t v, lk E t = some v → args[t]? = some v)
    (h : SatE P G c n (EndDV P S fn) E []) : Fx P G [] f args (fun v l1 nw => l1 = [] ∧ S v nw) :=
  fx_of hf hb (sat_mono (h _ [] ⟨by simp [hn]; omega, rfl, fun t v ht => by
    have := hE t v ht
    have hlt := (Array.getElem?_eq_some_iff.1 this).1
    rw [Array.getElem?_append_left hlt]; exact this⟩ (FitsM.nil _)) fun e' a m ⟨E', M', h1, h0, h2⟩ => by
      have key : (∃ r r' v v' fz, fn.results = #[r, r'] ∧ Res P E' M' r v ∧ Res P E' M' r' v' ∧ S (.tuple #[v, v']) fz ∧ Bag fz M') → a.defers = [] ∧ ∃ v l1 nw, (l1 = [] ∧ S v nw) ∧ (nw.map (·.b)).Nodup ∧ (∀ x ∈ nw, x.b ∉ ([] : Mem).map (·.b)) ∧ (∀ x ∈ l1 ++ nw, x ∈ m) ∧ ∀ w, MemIn m w → (results fn a.tmps).run P w = .ok v w := fun ⟨r, r', v, v', fz, hr, hR, hR', ho, hb⟩ =>
        ⟨h1.defers, .tuple #[v, v'], [], fz, ⟨rfl, ho⟩, (h0.bag_in hb).1, by simp, fun x hx => (h0.bag_in hb).2 x (by simpa using hx), fun w hw => by
          have := res_run h1 h0 hw hR
          have t' := res_run h1 h0 hw hR'
          rw [results_eq, hr, mapM2]
          simp [this, t']⟩
      cases e' <;> first | exact key h2 | exact h2.elim)
end
end Go.Proofs.Ytfldnikepdbgkaa
namespace Go.Proofs.Ytfldnikepdbgkaa
open Go Go.RowKit
section
variable {P : Program} {G : Mem} {R : Reg} {ops : Array Oper} {K : Act → Mem → Prop} {rest : List Oper} {a : Act} {m : Mem} {d : Option Tmp} {ty : TypeId} {pos : String} {aft : Array Edge}
variable {T T' : TypeId} {x y : Operand}
end
section
variable {P : Program} {G : Mem} {R : Reg} {ops : Array Oper} {n : Nat} {K : Env → Mm → Prop} {Q : Exit → Env → Mm → Prop} {rest : List Oper} {E : Env} {M : Mm} {d : Nat} {ty : TypeId} {pos : String} {aft : Array Edge}
variable {T T' : TypeId} {x y : Operand}
end
section
variable {P : Program} {G : Mem} {R : Reg} {ops : Array Oper} {K : Act → Mem → Prop} {rest : List Oper} {a : Act} {m : Mem} {d : Option Tmp} {ty : TypeId} {pos : String} {aft : Array Edge}
variable {T T' : TypeId} {x y : Operand}
end
section
variable {P : Program} {G : Mem} {R : Reg} {ops : Array Oper} {n : Nat} {K : Env → Mm → Prop} {rest : List Oper} {E : Env} {M : Mm} {d : Nat} {ty : TypeId} {pos : String} {aft : Array Edge}
variable {T T' : TypeId} {x y : Operand}
end
section
variable {P : Program} {G : Mem} {n : Nat}
end
end Go.Proofs.Ytfldnikepdbgkaa
namespace Go.Proofs.Ytfldnikepdbgkaa
open Go Go.RowKit
theorem take_ids {A : Mem} : ∀ {l : List Nat}, (A.map (·.b)).Nodup → l.Nodup → (∀ x ∈ l, x ∈ A.map (·.b)) → ∃ l1 nw, List.Perm A (l1 ++ nw) ∧ l1.map (·.b) = l := by
  intro l
  induction l generalizing A with
  | nil => exact fun _ _ _ => ⟨[], A, by simp, rfl⟩
  | cons i l ih =>
    intro hA hl hin
    obtain ⟨x, hx, rfl⟩ := List.mem_map.1 (hin i (by simp))
    obtain ⟨s, t, rfl⟩ := List.append_of_mem hx
    have hp : List.Perm (s ++ x :: t) (x :: (s ++ t)) := List.perm_middle
    have hA2 : ((x :: (s ++ t)).map (·.b)).Nodup := (hp.map _).nodup_iff.1 hA
    rw [List.map_cons, List.nodup_cons] at hA2
    have hl2 := List.nodup_cons.1 hl
    obtain ⟨l1, nw, h1, h2⟩ := ih (A := s ++ t) hA2.2 hl2.2 fun y hy => by
      have h3 := (hp.map (·.b)).mem_iff.1 (hin y (List.mem_cons_of_mem _ hy))
      rw [List.map_cons] at h3
      rcases List.mem_cons.1 h3 with h3 | h3
      · exact absurd (h3 ▸ hy) hl2.1
      · exact h3
    exact ⟨x :: l1, nw, hp.trans (h1.cons x), by rw [List.map_cons, h2]⟩
def Three (b : Nat) (t : TypeId) (oa ob : Option Blk) (S : Array Value → Option Blk → Option Blk → Mem → Prop) : Value → Mem → Mem → Prop := fun v l1 nw =>
  v = .tuple #[] ∧ l1.map (·.b) = b :: (oa.toList ++ ob.toList).map (·.b) ∧ ∃ c' o1 o2 fz, List.Perm (l1 ++ nw) (⟨b, c', t⟩ :: (o1.toList ++ (o2.toList ++ fz))) ∧ S c' o1 o2 fz
section
variable {P : Program} {G : Mem} {R : Reg} {ops : Array Oper} {n : Nat} {K : Env → Mm → Prop} {rest : List Oper} {E : Env} {M : Mm} {d : Nat} {ty T T' : TypeId} {pos : String} {aft : Array Edge} {x y : Operand}
theorem nodup3 {m : Mem} (hM : FitsM M m) {i j k : Nat} {b : Nat} {c : Array Value} {t : TypeId} {oa ob : Option Blk} (hi : lkM M i = some ⟨b, c, t⟩) (hj : lkM M j = oa) (hk : lkM M k = ob) (hij : i ≠ j) (hik : i ≠ k) (hjk : j ≠ k) : ((⟨b, c, t⟩ :: (oa.toList ++ ob.toList) : Mem).map (·.b)).Nodup := by
  cases oa with
  | none =>
    cases ob with
    | none => simp
    | some z => have := hM.apart i k _ z hi hk hik; simpa using this
  | some y =>
    have h1 := hM.apart i j _ y hi hj hij
    cases ob with
    | none => simpa using h1
    | some z =>
      have h2 := hM.apart i k _ z hi hk hik
      have h3 := hM.apart j k y z hj hk hjk
      have h1 : b ≠ y.b := h1
      have h2 : b ≠ z.b := h2
      simp [h1, h2, h3]
theorem perm3 {m : Mem} (hM : FitsM M m) {i j k : Nat} {x : Blk} {oa ob : Option Blk} (hi : lkM M i = some x) (hj : lkM M j = oa) (hk : lkM M k = ob) (hij : i ≠ j) (hik : i ≠ k) (hjk : j ≠ k) : ∃ lr, List.Perm m ((x :: (oa.toList ++ ob.toList)) ++ lr) ∧ ∀ q y, q ≠ i → q ≠ j → q ≠ k → lkM M q = some y → y ∈ lr := by
  obtain ⟨l1, h1⟩ := hM.perm1 hi
  have h1 : List.Perm m (x :: l1) := by simpa using h1
  have o1 : ∀ q y, q ≠ i → lkM M q = some y → y ∈ l1 := hM.others hi (by simpa using h1)
  have step : ∀ (l : Mem) (o : Option Blk), (∀ z, o = some z → z ∈ l) → ∃ lr, List.Perm l (o.toList ++ lr) := fun l o h => by
    cases o with
    | none => exact ⟨l, by simp⟩
    | some z =>
      obtain ⟨s, t, e⟩ := List.append_of_mem (h z rfl)
      exact ⟨s ++ t, by rw [e]; simp⟩
  obtain ⟨l2, h2⟩ := step l1 oa fun z hz => o1 j z (fun e => hij e.symm) (hj.trans hz)
  have o2 : ∀ q y, q ≠ i → q ≠ j → lkM M q = some y → y ∈ l2 := fun q y h3 h4 hy => by
    rcases List.mem_append.1 (h2.mem_iff.1 (o1 q y h3 hy)) with h | h
    · have e : oa = some y := by simpa using h
      exact absurd rfl (hM.apart q j y y hy (hj.trans e) h4)
    · exact h
  obtain ⟨l3, h3⟩ := step l2 ob fun z hz => o2 k z (fun e => hik e.symm) (fun e => hjk e.symm) (hk.trans hz)
  refine ⟨l3, h1.trans (by simpa using (h2.trans (h3.append_left _)).cons x), fun q y h4 h5 h6 hy => ?_⟩
  rcases List.mem_append.1 (h3.mem_iff.1 (o2 q y h4 h5 hy)) with h | h
  · have e : ob = some y := by simpa using h
    exact absurd rfl (hM.apart q k y y hy (hk.trans e) h6)
  · exact h
theorem e_call3 (i j k : Nat) (L : Mm) {fz : Mem} {fo : Operand} {f : FuncId} {args : Array Operand} {tys : Array TypeId} {vs cap : List Value} {g' : Mem} {b : Nat} {c : Array Value} {t : TypeId} {oa ob : Option Blk} {S : Array Value → Option Blk → Option Blk → Mem → Prop} (hb : Bag fz M) (hL : subL L ((i, none) :: (j, none) :: (k, none) :: M)) (hs : small L = true)
    (hi1 : (Nat.blt i 1000 = true ∧ Nat.blt j 1000 = true) ∧ Nat.blt k 1000 = true) (hd3 : (i ≠ j ∧ i ≠ k) ∧ j ≠ k) (hf : rd E fo = some (.func (.func f) #[] cap.toArray)) (hargs : rdl E args.toList = some vs) (he : enters P f = true)
    (hi : lkM M i = some ⟨b, c, t⟩) (hj : lkM M j = oa) (hk : lkM M k = ob) (hg : ∀ z ∈ g', z ∈ G ∨ ∃ q, (q ≠ i ∧ q ≠ j ∧ q ≠ k) ∧ lkM M q = some z)
    (hF : ((⟨b, c, t⟩ :: (oa.toList ++ ob.toList) : Mem).map (·.b)).Nodup → Fx P g' (⟨b, c, t⟩ :: (oa.toList ++ ob.toList)) f (vs ++ cap).toArray (Three b t oa ob S))
    (hS : ∀ m' : Mem, ∃ c' o1 o2 nf, S c' o1 o2 ((oa.toList ++ ob.toList) ++ nf) ∧ FreshM m' (o1.toList ++ (o2.toList ++ nf))) (hd : Nat.blt d n = true) (hR : R.c = 5)
    (h : ∀ c' o1 o2 nf, S c' o1 o2 nf → (∀ z ∈ oa.toList ++ ob.toList, z.b ∈ (o1.toList ++ (o2.toList ++ nf)).map (·.b)) → OpsE P G R ops n K rest ((d, .tuple #[]) :: E) ((k, o2) :: (j, o1) :: (i, some ⟨b, c', t⟩) :: catL L (lab 1000 (fz ++ nf)))) (hLn : R.L = none := by rfl) (hpu : pureD R (some d) = false := by first | rfl | assumption) : OpsE P G R ops n K (⟨some d, .call ⟨.value fo, args, tys⟩, ty, pos, aft, none⟩ :: rest) E M :=
  fun _ m ha hM => by
    obtain ⟨⟨hij, hik⟩, hjk⟩ := hd3
    obtain ⟨lr, hp, hoth⟩ := perm3 hM hi hj hk hij hik hjk
    have hnd := nodup3 hM hi hj hk hij hik hjk
    have hl0 : ∀ z ∈ (⟨b, c, t⟩ :: (oa.toList ++ ob.toList) : Mem), ∃ q, (q = i ∨ q = j ∨ q = k) ∧ lkM M q = some z := fun z hz => by
      rcases List.mem_cons.1 hz with rfl | hz
      · exact ⟨i, .inl rfl, hi⟩
      · rcases List.mem_append.1 hz with hz | hz
        · exact ⟨j, .inr (.inl rfl), hj.trans (by simpa using hz)⟩
        · exact ⟨k, .inr (.inr rfl), hk.trans (by simpa using hz)⟩
    refine st_callX hR hpu (S := Three b t oa ob S) (ha.rd hf) (ha.args hargs) he (by simpa using hF hnd) (l0 := ⟨b, c, t⟩ :: (oa.toList ++ ob.toList)) (lr := lr) (fun _ _ => off_none hLn _) hp (fun m' => ?_) ?_ (fun w hG hw z hz => ?_) hnd (fun hA z hz => ?_) ?_
    · obtain ⟨c0, p1, p2, nf, h0, h1⟩ := hS m'
      refine ⟨.tuple #[], ⟨b, c0, t⟩ :: (oa.toList ++ ob.toList), p1.toList ++ (p2.toList ++ nf), ⟨rfl, by simp, c0, p1, p2, _, ?_, h0⟩, h1⟩
      refine List.Perm.cons _ ?_
      have a1 : List.Perm ((oa.toList ++ ob.toList) ++ (p1.toList ++ (p2.toList ++ nf))) ((p1.toList ++ (p2.toList ++ nf)) ++ (oa.toList ++ ob.toList)) := List.perm_append_comm
      refine a1.trans ?_
      rw [List.append_assoc, List.append_assoc]
      exact ((List.perm_append_comm (l₁ := nf)).append_left _).append_left _
    · rintro v' l1 nw ⟨_, h1, _⟩; simpa using h1
    · rcases hg z hz with h1 | ⟨q, _, h1⟩
      · exact hG z h1
      · exact (hw z (hM.has q z h1)).read
    · intro hin
      obtain ⟨y, hy, e⟩ := List.mem_map.1 hin
      obtain ⟨q, hq, hlq⟩ := hl0 y hy
      rcases hg z hz with h1 | ⟨q2, ⟨g1, g2, g3⟩, h1⟩
      · exact hA z h1 y (hM.has q y hlq) e.symm
      · exact hM.apart q2 q z y h1 hlq (by rcases hq with rfl | rfl | rfl <;> assumption) e.symm
    · rintro v' l1 nw ⟨rfl, hid, c', o1, o2, nf, hpm, hSx⟩ hfr
      obtain ⟨A, hA⟩ : ∃ A, A = (⟨b, c', t⟩ :: (o1.toList ++ (o2.toList ++ nf)) : Mem) := ⟨_, rfl⟩
      rw [← hA] at hpm
      have hid : l1.map (·.b) = (⟨b, c, t⟩ :: (oa.toList ++ ob.toList) : Mem).map (·.b) := by simpa using hid
      have hnA : (A.map (·.b)).Nodup := (hpm.map _).nodup_iff.1 (by
        rw [List.map_append, List.nodup_append]
        refine ⟨hid ▸ hnd, hfr.1, fun p hp1 q hq e => ?_⟩
        rw [hid] at hp1
        obtain ⟨y, hy, rfl⟩ := List.mem_map.1 hp1
        obtain ⟨z, hz, rfl⟩ := List.mem_map.1 hq
        obtain ⟨q2, _, h2⟩ := hl0 y hy
        exact hfr.2 z hz y (hM.has q2 y h2) e)
      have hids : ∀ z ∈ oa.toList ++ ob.toList, z.b ∈ (o1.toList ++ (o2.toList ++ nf)).map (·.b) := fun z hz => by
        have h1 : z.b ∈ A.map (·.b) := (hpm.map _).mem_iff.1 (by
          rw [List.map_append, hid]
          exact List.mem_append_left _ (List.mem_map.2 ⟨z, List.mem_cons_of_mem _ hz, rfl⟩))
        rw [hA, List.map_cons] at h1
        rcases List.mem_cons.1 h1 with h1 | h1
        · rw [List.map_cons, List.nodup_cons] at hnd
          exact absurd (List.mem_map.2 ⟨z, hz, h1⟩) hnd.1
        · exact h1
      refine h c' o1 o2 nf hSx hids _ _ (ha.put hd _) ?_
      have hoff : ∀ q y, q ≠ i → q ≠ j → q ≠ k → lkM M q = some y → ∀ x ∈ A, y.b ≠ x.b := fun q y h1 h2 h3 hy x hx => by
        rcases List.mem_append.1 (hpm.mem_iff.2 hx) with hx | hx
        · have : x.b ∈ l1.map (·.b) := List.mem_map.2 ⟨x, hx, rfl⟩
          rw [hid] at this
          obtain ⟨z, hz, e⟩ := List.mem_map.1 this
          obtain ⟨q2, hq2, h4⟩ := hl0 z hz
          rw [← e]
          exact hM.apart q q2 y z hy h4 (by rcases hq2 with rfl | rfl | rfl <;> assumption)
        · exact hfr.2 x hx y (hM.has q y hy)
      have hlab : ∀ q y, lkM ((i, none) :: (j, none) :: (k, none) :: M) q = some y → (q ≠ i ∧ q ≠ j ∧ q ≠ k) ∧ lkM M q = some y := fun q y hq => by
        rw [lkM_cons] at hq
        split at hq
        · cases hq
        rename_i n1
        rw [lkM_cons] at hq
        split at hq
        · cases hq
        rename_i n2
        rw [lkM_cons] at hq
        split at hq
        · cases hq
        rename_i n3
        exact ⟨⟨fun e => n1 e.symm, fun e => n2 e.symm, fun e => n3 e.symm⟩, hq⟩
      have h0 : FitsM ((i, none) :: (j, none) :: (k, none) :: M) (lr.filter fun y => decide (∀ x ∈ A, y.b ≠ x.b)) :=
        ⟨fun q y hq => by
          obtain ⟨⟨g1, g2, g3⟩, g4⟩ := hlab q y hq
          exact List.mem_filter.2 ⟨hoth q y g1 g2 g3 g4, decide_eq_true (hoff q y g1 g2 g3 g4)⟩,
         fun p q y z hy hz hne => hM.apart p q y z (hlab p y hy).2 (hlab q z hz).2 hne⟩
      obtain ⟨m0, hm0⟩ : ∃ m0, m0 = lr.filter fun y => decide (∀ x ∈ A, y.b ≠ x.b) := ⟨_, rfl⟩
      rw [← hm0] at h0
      have hm1 : ∀ y ∈ m0, y ∈ lr ∧ ∀ x ∈ A, y.b ≠ x.b := fun y hy => by
        rw [hm0] at hy
        have := List.mem_filter.1 hy
        exact ⟨this.1, of_decide_eq_true this.2⟩
      have hAn : ∀ x ∈ nf, x ∈ A := fun x hx => by rw [hA]; simp [hx]
      have hA1 : ∀ x ∈ o1.toList, x ∈ A := fun x hx => by rw [hA]; exact List.mem_cons_of_mem _ (List.mem_append_left _ hx)
      have hA2 : ∀ x ∈ o2.toList, x ∈ A := fun x hx => by rw [hA]; exact List.mem_cons_of_mem _ (List.mem_append_right _ (List.mem_append_left _ hx))
      have hnA' := hnA
      rw [hA, List.map_cons, List.nodup_cons, List.map_append, List.nodup_append, List.map_append, List.nodup_append] at hnA'
      obtain ⟨hbA, hn1, ⟨hn2, hn3, hn23⟩, hn123⟩ := hnA'
      have c0 : FitsM (catL L (lab 1000 (fz ++ nf))) (m0 ++ nf) := h0.bag (L := L) (bag_skip hi1.1.1 (bag_skip hi1.1.2 (bag_skip hi1.2 hb))) hL hs (fun x hx => List.mem_append_left _ hx) (fun x hx => List.mem_append_right _ hx) hn3 fun x hx q y _ hy => (hm1 y (h0.has q y hy)).2 x (hAn x hx)
      have c1 := c0.fresh i (oz := some ⟨b, c', t⟩) (l0 := []) (lr := m0 ++ nf) (by simp) ⟨by simp, fun x hx y hy => by
        have hx : x = ⟨b, c', t⟩ := by simpa using hx
        subst hx
        rcases List.mem_append.1 hy with hy | hy
        · exact (hm1 y hy).2 _ (by rw [hA]; simp)
        · intro e
          exact hbA (by
            have : y.b ∈ (nf.map (·.b)) := List.mem_map.2 ⟨y, hy, rfl⟩
            rw [← e]; simp only [List.mem_append]; exact .inr (.inr this))⟩
      have c2 := c1.fresh j (oz := o1) (l0 := []) (lr := [] ++ (m0 ++ nf) ++ (some (⟨b, c', t⟩ : Blk)).toList) (by simp) ⟨hn1, fun x hx y hy => by
        have hxb : x.b ∈ o1.toList.map (·.b) := List.mem_map.2 ⟨x, hx, rfl⟩
        simp only [List.nil_append, List.mem_append] at hy
        rcases hy with (hy | hy) | hy
        · exact (hm1 y hy).2 x (hA1 x hx)
        · exact fun e => hn123 _ hxb _ (List.mem_append_right _ (List.mem_map.2 ⟨y, hy, rfl⟩)) e.symm
        · have hy : y = ⟨b, c', t⟩ := by simpa using hy
          subst hy
          exact fun e => hbA (List.mem_append_left _ (e ▸ hxb))⟩
      have c3 := c2.fresh k (oz := o2) (l0 := []) (lr := [] ++ ([] ++ (m0 ++ nf) ++ (some (⟨b, c', t⟩ : Blk)).toList) ++ o1.toList) (by simp) ⟨hn2, fun x hx y hy => by
        have hxb : x.b ∈ o2.toList.map (·.b) := List.mem_map.2 ⟨x, hx, rfl⟩
        simp only [List.nil_append, List.mem_append] at hy
        rcases hy with ((hy | hy) | hy) | hy
        · exact (hm1 y hy).2 x (hA2 x hx)
        · exact fun e => hn23 _ hxb _ (List.mem_map.2 ⟨y, hy, rfl⟩) e.symm
        · have hy : y = ⟨b, c', t⟩ := by simpa using hy
          subst hy
          exact fun e => hbA (List.mem_append_right _ (List.mem_append_left _ (e ▸ hxb)))
        · exact fun e => hn123 _ (List.mem_map.2 ⟨y, hy, rfl⟩) _ (List.mem_append_left _ hxb) e⟩
      refine c3.more fun y hy => ?_
      have inA : ∀ y ∈ A, y ∈ l1 ++ lr ++ nw := fun y hy => by
        rcases List.mem_append.1 (hpm.mem_iff.2 hy) with hy | hy
        · simp [hy]
        · simp [hy]
      simp only [List.nil_append, List.mem_append] at hy
      rcases hy with (((hy | hy) | hy) | hy) | hy
      · have := (hm1 y hy).1; simp [this]
      · exact inA y (hAn y hy)
      · exact inA y (by rw [hA]; have hy : y = ⟨b, c', t⟩ := by simpa using hy
                        rw [hy]; simp)
      · exact inA y (hA1 y hy)
      · exact inA y (hA2 y hy)
theorem bag_off3 {i j k : Nat} {fz : Mem} (hb : Bag fz M) (hi : i < 1000 := by decide) (hj : j < 1000 := by decide) (hk : k < 1000 := by decide) : ∀ z ∈ fz ++ G, z ∈ G ∨ ∃ q, (q ≠ i ∧ q ≠ j ∧ q ≠ k) ∧ lkM M q = some z := fun z hz => by
  rcases List.mem_append.1 hz with hz | hz
  · obtain ⟨p, hp⟩ := List.getElem?_of_mem hz
    exact .inr ⟨1000 + p, ⟨by omega, by omega, by omega⟩, by rw [hb _ (by omega), show 1000 + p - 1000 = p by omega]; exact hp⟩
  · exact .inl hz
theorem e_appendJ (i : Nat) (L : Mm) {fz : Mem} {e : TypeId} {z l k bytes : Nat} {zv v vy : Value} {xs news : List Value} {oz : Option Blk} {B : Mem} (hown : OwnS e z v l xs oz.toList) (hsrc : Shows B z vy k news) (hi : lkM M i = oz) (hB : SeenE G R M B) (hb : Bag fz M) (hL : ∀ x, subL L ((i, x) :: M)) (hs0 : small L = true) (h1i : Nat.blt i 1000 = true)
    (hT : P.underlying T = some (.slice e)) (hs : (P.info? e).map (·.size) = some z) (hby : (P.info? e).map (·.bytes) = some bytes) (hz : (P.info? e).bind (·.zero) = some zv) (hzs : zv.cells.size = z)
    (hx : rd E x = some v) (hy : rd E y = some vy) (h1 : ∀ u ∈ news, u.oneCell' = true) (h63 : l + k ≤ maxLen) (hbytes : (l + k) * bytes ≤ 140737488355328) (hd : Nat.blt d n = true)
    (h : ∀ v' (oz' : Option Blk) (jk : Mem), OwnS e z v' (l + k) (xs ++ news) oz'.toList → (∀ q ∈ oz.toList, q.b ∈ (oz'.toList ++ jk).map (·.b)) → OpsE P G R ops n K rest ((d, v') :: E) ((i, oz') :: catL L (lab 1000 (fz ++ jk)))) (hLn : R.L = none := by rfl) : OpsE P G R ops n K (⟨some d, .call ⟨.builtin .append, #[x, y], #[T, T]⟩, ty, pos, aft, none⟩ :: rest) E M :=
  fun _ m ha hM => by
    obtain ⟨lr, hp⟩ := hM.perm1 hi
    refine st_append hT hs hby hz hzs (ha.rd hx) (ha.rd hy) hown (fun _ _ => off_none hLn _) hp hsrc (fun q hq => ?_) h1 h63 hbytes fun v' l' ho => ?_
    · rcases hB q hq with h2 | ⟨j, h2, _⟩
      · exact .inl h2
      · exact .inr (hM.has j q h2)
    · obtain ⟨oz', rfl⟩ := own_opt ho
      refine ⟨fun hid => ?_, fun hf => ?_⟩
      · have hM2 := hM.same hi hp hid
        refine h v' oz' [] ho (fun q hq => ?_) _ _ (ha.put hd _) ((?_ : FitsM ((i, oz') :: M) _).sub ?_)
        · rw [List.append_nil, hid]; exact List.mem_map.2 ⟨q, hq, rfl⟩
        · simpa using hM2
        · refine ⟨by simp [lkM_cons], ?_⟩
          rw [List.append_nil]
          exact subL_cat (hL oz') (bag_sub (bag_skip h1i hb))
      · have c0 : FitsM (catL L (lab 1000 (fz ++ oz.toList))) m := by
          have hb2 : Bag fz ((i, none) :: M) := bag_skip h1i hb
          have hM0 : FitsM ((i, none) :: M) m := hM.change i (fun j x _ hx => hM.has j x hx) fun z hz => by cases hz
          refine hM0.bag hb2 (hL none) hs0 (fun _ h => h) (fun x hx => hM.has i x (hi.trans (by simpa using hx))) (by cases oz <;> simp) fun x hx q y _ hy => ?_
          rw [lkM_cons] at hy
          split at hy
          · cases hy
          · rename_i n1
            exact hM.apart q i y x hy (hi.trans (by simpa using hx)) fun e => n1 e.symm
        exact h v' oz' oz.toList ho (fun q hq => List.mem_map.2 ⟨q, List.mem_append_right _ hq, rfl⟩) _ _ (ha.put hd _) (c0.fresh i hp hf)
end
section
variable {P : Program} {G : Mem} {R : Reg} {ops : Array Oper} {n : Nat} {K : Env → Mm → Prop} {rest : List Oper} {E : Env} {M : Mm} {d : Nat} {ty T T' : TypeId} {pos : String} {aft : Array Edge} {x y : Operand}
theorem e_st1Y {b o i N : Nat} {F : Nat → Value} {v : Value} {t : TypeId} (hs : (P.info? T).map (·.size) = some 1) (hx : rd E x = some (.pointer (some ⟨b, o, none⟩))) (hy : rd E y = some v) (hv : v.oneCell' = true)
    (hm : lkM M i = some ⟨b, arrv N F, t⟩) (ho : o < N) (hX : hid R ⟨none, .store T x y, ty, pos, aft, none⟩ b) (h : OpsE P G R ops n K rest E ((i, some ⟨b, arrv N (updv F o v), t⟩) :: M)) (hY : yOk R ⟨none, .store T x y, ty, pos, aft, none⟩ b) : OpsE P G R ops n K (⟨none, .store T x y, ty, pos, aft, none⟩ :: rest) E M :=
  fun _ _ ha hM => by
    obtain ⟨j, hj⟩ := hM.at hm
    exact st_store1Y hs (ha.rd hx) (ha.rd hy) hv hj hX (by rw [arrv_size]; exact ho) (by rw [arrv_set]; exact h _ _ ha (hM.store hm hj _)) hY
theorem e_stVY (k : Nat) {b o i N : Nat} {v : Value} {F : Nat → Value} {ps : List Part} {t : TypeId} (hs : (P.info? T).map (·.size) = some 1) (hx : rd E x = some (.pointer (some ⟨b, o, none⟩))) (hy : rd E y = some v) (hv : v.oneCell' = true)
    (hm : lkM M i = some ⟨b, cells N ps, t⟩) (hk : catAt ps k = some (o, 1, F)) (hN : o < N) (hX : hid R ⟨none, .store T x y, ty, pos, aft, none⟩ b) (h : OpsE P G R ops n K rest E ((i, some ⟨b, cells N (catSet ps k (fun _ => v)), t⟩) :: M)) (hY : yOk R ⟨none, .store T x y, ty, pos, aft, none⟩ b) : OpsE P G R ops n K (⟨none, .store T x y, ty, pos, aft, none⟩ :: rest) E M :=
  e_st1Y hs hx hy hv hm hN hX (by rw [← putv_one, funext (cat_put _ hk)]; exact h) hY
end
section
variable {P : Program} {G : Mem} {n : Nat}
def EndW3 (b : Nat) (t : TypeId) (oa ob : Option Blk) (S : Array Value → Option Blk → Option Blk → Mem → Prop) (fn : Func) : Exit → Env → Mm → Prop
  | .normal, _, M | .ret, _, M => fn.results = #[] ∧ ∃ c' o1 o2 fz, S c' o1 o2 fz ∧ lkM M 0 = some ⟨b, c', t⟩ ∧ lkM M 1 = o1 ∧ lkM M 2 = o2 ∧ Bag fz M ∧ ∀ z ∈ oa.toList ++ ob.toList, z.b ∈ (o1.toList ++ (o2.toList ++ fz)).map (·.b)
  | _, _, _ => False
theorem fxW3 {f : FuncId} {fn : Func} {c : Code} {args : Array Value} {b : Nat} {c0 : Array Value} {t : TypeId} {oa ob : Option Blk} {S : Array Value → Option Blk → Option Blk → Mem → Prop} (hf : P.funcs[f]? = some fn) (hb : fn.body = some c) (hn : fn.ntmps = n) (ha : args.size ≤ n) (E : Env) (hE : ∀ t v, lk E t = some v → args[t]? = some v) (hne : ((⟨b, c0, t⟩ :: (oa.toList ++ ob.toList) : Mem).map (·.b)).Nodup)
    (h : SatE P G c n (EndW3 b t oa ob S fn) E [(2, ob), (1, oa), (0, some ⟨b, c0, t⟩)]) : Fx P G (⟨b, c0, t⟩ :: (oa.toList ++ ob.toList)) f args (Three b t oa ob S) :=
  fx_of hf hb (sat_mono (h _ _ ⟨by simp [hn]; omega, rfl, fun t v ht => by
    have := hE t v ht
    have hlt := (Array.getElem?_eq_some_iff.1 this).1
    rw [Array.getElem?_append_left hlt]; exact this⟩ (by
      rw [List.map_cons, List.nodup_cons, List.map_append, List.nodup_append] at hne
      obtain ⟨h1, _, _, h2⟩ := hne
      have c1 : FitsM [(1, oa), (0, some ⟨b, c0, t⟩)] (⟨b, c0, t⟩ :: oa.toList) := FitsM.two fun z hz => by
        subst hz
        exact fun e => h1 (by rw [show (⟨b, c0, t⟩ : Blk).b = z.b from e.symm]; simp)
      refine (c1.change 2 (m' := ⟨b, c0, t⟩ :: (oa.toList ++ ob.toList)) (fun j x _ hx => ?_) fun z hz => ⟨by subst hz; simp, fun j x _ hx => ?_⟩)
      · rcases List.mem_cons.1 (c1.has j x hx) with h | h
        · exact h ▸ List.mem_cons_self ..
        · exact List.mem_cons_of_mem _ (List.mem_append_left _ h)
      · subst hz
        rcases List.mem_cons.1 (c1.has j x hx) with h | h
        · rw [h]; exact fun e => h1 (by rw [show b = z.b from e]; simp)
        · exact h2 _ (List.mem_map.2 ⟨x, h, rfl⟩) _ (by simp))) fun e' a m ⟨E', M', h1, h0, h2⟩ => by
      have key : (fn.results = #[] ∧ ∃ c' o1 o2 fz, S c' o1 o2 fz ∧ lkM M' 0 = some ⟨b, c', t⟩ ∧ lkM M' 1 = o1 ∧ lkM M' 2 = o2 ∧ Bag fz M' ∧ ∀ z ∈ oa.toList ++ ob.toList, z.b ∈ (o1.toList ++ (o2.toList ++ fz)).map (·.b)) → a.defers = [] ∧ ∃ v l1 nw, Three b t oa ob S v l1 nw ∧ (nw.map (·.b)).Nodup ∧ (∀ x ∈ nw, x.b ∉ (⟨b, c0, t⟩ :: (oa.toList ++ ob.toList) : Mem).map (·.b)) ∧ (∀ x ∈ l1 ++ nw, x ∈ m) ∧ ∀ w, MemIn m w → (results fn a.tmps).run P w = .ok v w := fun ⟨hr, c', o1, o2, fz, hS, k0, k1, k2, hbg, g1⟩ => by
        obtain ⟨A, hA⟩ : ∃ A, A = (⟨b, c', t⟩ :: (o1.toList ++ (o2.toList ++ fz)) : Mem) := ⟨_, rfl⟩
        have hbi := h0.bag_in hbg
        have n3 := nodup3 h0 k0 k1 k2 (by decide) (by decide) (by decide)
        have hin : ∀ x ∈ A, x ∈ m := fun x hx => by
          rw [hA] at hx
          rcases List.mem_cons.1 hx with rfl | hx
          · exact h0.has 0 _ k0
          · rcases List.mem_append.1 hx with hx | hx
            · exact h0.has 1 x (k1.trans (by simpa using hx))
            · rcases List.mem_append.1 hx with hx | hx
              · exact h0.has 2 x (k2.trans (by simpa using hx))
              · exact hbi.2 x hx
        have off : ∀ x ∈ fz, ∀ q y, q < 1000 → lkM M' q = some y → y.b ≠ x.b := fun x hx q y hq hy => by
          obtain ⟨j, hj⟩ := List.getElem?_of_mem hx
          have hj2 : lkM M' (1000 + j) = some x := by rw [hbg _ (by omega), show 1000 + j - 1000 = j by omega]; exact hj
          exact h0.apart q (1000 + j) y x hy hj2 (by omega)
        have hnA : (A.map (·.b)).Nodup := by
          rw [hA, ← List.append_assoc, ← List.cons_append, List.map_append, List.nodup_append]
          refine ⟨n3, hbi.1, fun p hp q hq e => ?_⟩
          obtain ⟨y, hy, rfl⟩ := List.mem_map.1 hp
          obtain ⟨x, hx, rfl⟩ := List.mem_map.1 hq
          rcases List.mem_cons.1 hy with rfl | hy
          · exact off x hx 0 _ (by decide) k0 e
          · rcases List.mem_append.1 hy with hy | hy
            · exact off x hx 1 y (by decide) (k1.trans (by simpa using hy)) e
            · exact off x hx 2 y (by decide) (k2.trans (by simpa using hy)) e
        obtain ⟨l1, nw, hpm, hid⟩ := take_ids (l := (⟨b, c0, t⟩ :: (oa.toList ++ ob.toList) : Mem).map (·.b)) hnA hne fun i hi => by
          rw [hA, List.map_cons]
          rw [List.map_cons] at hi
          rcases List.mem_cons.1 hi with hi | hi
          · exact hi ▸ List.mem_cons_self ..
          · obtain ⟨z, hz, rfl⟩ := List.mem_map.1 hi
            exact List.mem_cons_of_mem _ (g1 z hz)
        have hn2 := (hpm.map (·.b)).nodup_iff.1 hnA
        rw [List.map_append, List.nodup_append] at hn2
        refine ⟨h1.defers, .tuple #[], l1, nw, ⟨rfl, by simpa using hid, c', o1, o2, fz, hA ▸ hpm.symm, hS⟩, hn2.2.1, fun x hx hxl => ?_, fun x hx => hin x (hpm.mem_iff.2 hx), fun w hw => by
          rw [results_eq, hr, mapM0]; rfl⟩
        rw [← hid] at hxl
        exact hn2.2.2 _ hxl _ (List.mem_map.2 ⟨x, hx, rfl⟩) rfl
      cases e' <;> first | exact key h2 | exact h2.elim)
end
end Go.Proofs.Ytfldnikepdbgkaa
namespace Go.Proofs.Ytfldnikepdbgkaa
open Go Go.RowKit
abbrev atomT (i : Int) : TT := ⟨1, i, 0, []⟩
abbrev pubT (i : Int) : TT := ⟨2, i, 0, []⟩
def agB (hs : TT → Bool) (a b : Int) : Bool := hs (atomT a) && (hs (pubT b) || hs (atomT b))
def TT.canB (hs : TT → Bool) : TT → Bool
  | ⟨k, i, o, l⟩ => hs ⟨k, i, o, l⟩ || (if k = 1 then false else if k = 2 then hs (atomT i) else if k = 3 then agB hs i o || agB hs o i else (l.map fun a => a.canB hs).all fun b => b)
def agP (S : TT → Prop) (a b : Int) : Prop := S (atomT a) ∧ (S (pubT b) ∨ S (atomT b))
def TT.canP (S : TT → Prop) : TT → Prop
  | ⟨k, i, o, l⟩ => S ⟨k, i, o, l⟩ ∨ (if k = 1 then False else if k = 2 then S (atomT i) else if k = 3 then agP S i o ∨ agP S o i else ∀ a, a ∈ l → a.canP S)
def prT (t : TT) : List TT := if t.kind = 4 then t.args else if t.kind = 7 then t.args.drop 2 else []
def keyT (t : TT) : TT := t.args.getD 0 (atomT 0)
def opP (S : TT → Prop) (t : TT) : Prop := t.kind = 7 → (keyT t).canP S
def ClosedP (S : TT → Prop) : Prop := ∀ y, S y → opP S y → ∀ x ∈ prT y, S x
def HasP (l : List TT) (x : TT) : Prop := ∀ S : TT → Prop, (∀ y ∈ l, S y) → ClosedP S → S x
def cleanT (s : TT) : TT → Prop
  | ⟨k, i, o, l⟩ => (⟨k, i, o, l⟩ : TT) ≠ s ∧ ∀ a, a ∈ l → cleanT s a
def TT.subs : TT → List TT
  | ⟨k, i, o, l⟩ => ⟨k, i, o, l⟩ :: (l.map fun a => a.subs).flatten
def subsL (l : List TT) : List TT := (l.map fun a => a.subs).flatten
structure GrowT (l L : List TT) : Prop where
  sound : ∀ x ∈ L, HasP l x
  good : ∀ x ∈ L, x.form = 0
  news : ∃ N, L = l ++ N ∧ N.Nodup ∧ ∀ x ∈ N, x ∈ subsL l
theorem GrowT.base {l L : List TT} (h : GrowT l L) {x : TT} (hx : x ∈ l) : x ∈ L := by
  obtain ⟨N, rfl, _⟩ := h.news; exact List.mem_append_left _ hx
theorem form_kind {t : TT} (h : t.form = 0) : t.args.length = wdt t.kind ∧ ∀ a ∈ t.args, a.form = 0 := by
  rw [form_eq] at h
  split at h
  · cases h
  split at h
  · cases h
  · rename_i h1 h2
    refine ⟨Classical.byContradiction fun g => h2 (.inl g), fun a ha => ?_⟩
    refine Classical.byContradiction fun g => ?_
    have key : ∀ l : List Nat, fst1 l = 0 → ∀ x ∈ l, x = 0 := by
      intro l
      induction l with
      | nil => intro _ x hx; cases hx
      | cons y l ih =>
        intro h x hx
        rw [fst1] at h
        split at h
        · rcases List.mem_cons.1 hx with rfl | hx
          · assumption
          · exact ih h x hx
        · rename_i hy; exact absurd h hy
    exact g (key _ h _ (List.mem_map_of_mem ha))
theorem TO.at {G : Mem} {L : List TT} {xs : List Value} (h : TO G L xs) {j : Nat} (hj : j < L.length) : ∃ c' ys, (xs.drop (j * 4)).take 4 = [iv L[j].kind, iv L[j].id, iv L[j].other, c'] ∧ TL G L[j].args c' ys := by
  obtain ⟨c', ys, e, hl⟩ := TV_iff.1 (h.2 j hj)
  refine ⟨c', ys, ?_, hl⟩
  have := congrArg (fun v => match v with | .agg a => a.toList | _ => []) e
  simpa using this
def Pre (L0 L : List TT) : Prop := ∃ s, L = L0 ++ s
theorem Pre.at {L0 L : List TT} (h : Pre L0 L) {i : Nat} (hi : i < L0.length) : ∃ hj : i < L.length, L[i] = L0[i] := by
  obtain ⟨s, rfl⟩ := h
  exact ⟨by rw [List.length_append]; omega, List.getElem_append_left hi⟩
end Go.Proofs.Ytfldnikepdbgkaa
namespace Go.Proofs.Ytfldnikepdbgkaa
open Go Go.RowKit
structure GoodT (t : TT) (used n : Nat) : Prop where
  form : t.form = 0
  nodes : t.nodes ≤ 3 * used + 1
  deep : t.deep ≤ n + 1
  clean : cleanT (atomT 99) t
structure GoodL (l : List TT) (used n : Nat) : Prop where
  form : ∀ t ∈ l, t.form = 0
  nodes : nodesL l ≤ 3 * used + l.length
  deep : ∀ t ∈ l, t.deep ≤ n + 1
  clean : ∀ t ∈ l, cleanT (atomT 99) t
theorem fst1_all {l : List TT} (h : ∀ t ∈ l, t.form = 0) : formL l = 0 := formL_none fun _ hj => h _ (List.getElem_mem hj)
theorem freshM_app {m n1 n2 : Mem} (h1 : FreshM m n1) (h2 : FreshM (m ++ n1) n2) : FreshM m (n1 ++ n2) := by
  refine ⟨?_, fun x hx y hy => ?_⟩
  · rw [List.map_append, List.nodup_append]
    refine ⟨h1.1, h2.1, fun a ha b hb e => ?_⟩
    obtain ⟨x, hx, rfl⟩ := List.mem_map.1 ha
    obtain ⟨y, hy, rfl⟩ := List.mem_map.1 hb
    exact h2.2 y hy x (List.mem_append_right _ hx) e
  · rcases List.mem_append.1 hx with hx | hx
    · exact h1.2 x hx y hy
    · exact h2.2 x hx y (List.mem_append_left _ hy)
theorem to_room {l : List TT} : (∀ t ∈ l, ∀ m : Mem, ∃ c ys nw, TL nw t.args c ys ∧ FreshM m nw) → ∀ m : Mem, ∃ xs nw, TO nw l xs ∧ FreshM m nw := by
  induction l with
  | nil => exact fun _ m => ⟨[], [], TO.nil, by simp [FreshM]⟩
  | cons t l ih =>
    intro h m
    obtain ⟨c, ys, n1, h1, f1⟩ := h t (by simp) m
    obtain ⟨xs, n2, h2, f2⟩ := ih (fun x hx => h x (by simp [hx])) (m ++ n1)
    exact ⟨(tC t c).toList ++ xs, n1 ++ n2, TO.app (L := [t]) ((to_one h1).mono fun _ hx => List.mem_append_left _ hx) (h2.mono fun _ hx => List.mem_append_right _ hx), freshM_app f1 f2⟩
theorem tl_room {l : List TT} (e : TypeId) (hl : l.length ≤ maxLen) (h : ∀ t ∈ l, ∀ m : Mem, ∃ c ys nw, TL nw t.args c ys ∧ FreshM m nw) (m : Mem) : ∃ c ys nw, TL nw l c ys ∧ FreshM m nw := by
  cases l with
  | nil => exact ⟨nilS, [], [], tl_nil, by simp [FreshM]⟩
  | cons t l =>
    obtain ⟨xs, nw, h1, f1⟩ := to_room h m
    obtain ⟨r, hr⟩ := fresh_of (m ++ nw)
    refine ⟨.slice (some ⟨r, 0, none⟩) (t :: l).length (t :: l).length, xs, [⟨r, xs.toArray, e⟩] ++ nw, ?_, ?_⟩
    · refine TO.tl (e := e) (l := [⟨r, xs.toArray, e⟩]) h1 (.inr ⟨r, _, xs.toArray, rfl, rfl, Nat.le_refl _, hl, by simpa using h1.1, h1.1, ?_⟩) hl
      have := h1.1
      rw [← this]; simp
    · refine ⟨?_, fun x hx y hy => ?_⟩
      · rw [List.map_append, List.nodup_append]
        refine ⟨by simp, f1.1, fun a ha b hb e => ?_⟩
        obtain ⟨y, hy, rfl⟩ := List.mem_map.1 hb
        have ha : a = r := by simpa using ha
        exact hr y (List.mem_append_right _ hy) (e.symm.trans ha)
      · rcases List.mem_append.1 hx with hx | hx
        · simp at hx; subst hx; exact hr y (List.mem_append_left _ hy)
        · exact f1.2 x hx y hy
theorem form_room (e : TypeId) (t : TT) : t.form = 0 → ∀ m : Mem, ∃ c ys nw, TL nw t.args c ys ∧ FreshM m nw := by
  refine TT.ind (p := fun t => t.form = 0 → ∀ m : Mem, ∃ c ys nw, TL nw t.args c ys ∧ FreshM m nw) (fun t ih h m => ?_) t
  have hk := form_kind h
  exact tl_room e (by rw [hk.1]; unfold wdt maxLen; repeat' split
                      all_goals omega) (fun a ha => ih a ha (hk.2 a ha)) m
section
variable {G nw : Mem} {f kk : Nat} {rs : List RawT} {v : Value}
end
theorem cons_of {α : Type} {l : List α} {n : Nat} (h : l.length = n + 1) : ∃ a t, l = a :: t ∧ t.length = n := by
  cases l with
  | nil => simp at h
  | cons a t => exact ⟨a, t, rfl, by simpa using h⟩
theorem eight {Z : Array Value} (hZ : Z.size = 8) : ∃ a b c d e f g h, Z = #[a, b, c, d, e, f, g, h] := by
  obtain ⟨l0⟩ := Z
  have h0 : l0.length = 8 := hZ
  obtain ⟨a, l1, rfl, h1⟩ := cons_of h0
  obtain ⟨b, l2, rfl, h2⟩ := cons_of h1
  obtain ⟨c, l3, rfl, h3⟩ := cons_of h2
  obtain ⟨d, l4, rfl, h4⟩ := cons_of h3
  obtain ⟨e, l5, rfl, h5⟩ := cons_of h4
  obtain ⟨f, l6, rfl, h6⟩ := cons_of h5
  obtain ⟨g, l7, rfl, h7⟩ := cons_of h6
  obtain ⟨h, l8, rfl, h8⟩ := cons_of h7
  obtain rfl : l8 = [] := List.length_eq_zero_iff.1 h8
  exact ⟨a, b, c, d, e, f, g, h, rfl⟩
theorem twelve {Z : Array Value} (hZ : Z.size = 12) : ∃ a b c d e f g h i1 j1 k1 m1, Z = #[a, b, c, d, e, f, g, h, i1, j1, k1, m1] := by
  obtain ⟨l0⟩ := Z
  have h0 : l0.length = 12 := hZ
  obtain ⟨a, l1, rfl, h1⟩ := cons_of h0
  obtain ⟨b, l2, rfl, h2⟩ := cons_of h1
  obtain ⟨c, l3, rfl, h3⟩ := cons_of h2
  obtain ⟨d, l4, rfl, h4⟩ := cons_of h3
  obtain ⟨e, l5, rfl, h5⟩ := cons_of h4
  obtain ⟨f, l6, rfl, h6⟩ := cons_of h5
  obtain ⟨g, l7, rfl, h7⟩ := cons_of h6
  obtain ⟨h, l8, rfl, h8⟩ := cons_of h7
  obtain ⟨i1, l9, rfl, h9⟩ := cons_of h8
  obtain ⟨j1, l10, rfl, h10⟩ := cons_of h9
  obtain ⟨k1, l11, rfl, h11⟩ := cons_of h10
  obtain ⟨m1, l12, rfl, h12⟩ := cons_of h11
  obtain rfl : l12 = [] := List.length_eq_zero_iff.1 h12
  exact ⟨a, b, c, d, e, f, g, h, i1, j1, k1, m1, rfl⟩
theorem fill_tC2 {Z : Array Value} (hZ : Z.size = 8) {t u : TT} {c c2 : Value} : Instr.fill (fun i => some (i * 4, 4)) Z [(0, .agg (tC t c)), (1, .agg (tC u c2))] = some ((tC t c).toList ++ (tC u c2).toList).toArray := by
  obtain ⟨a, b, c, d, e, f, g, h, rfl⟩ := eight hZ
  kernel_rfl
theorem fill_tC3 {Z : Array Value} (hZ : Z.size = 12) {t u s : TT} {c c2 c3 : Value} : Instr.fill (fun i => some (i * 4, 4)) Z [(0, .agg (tC t c)), (1, .agg (tC u c2)), (2, .agg (tC s c3))] = some ((tC t c).toList ++ (tC u c2).toList ++ (tC s c3).toList).toArray := by
  obtain ⟨a, b, c, d, e, f, g, h, i, j, k, l, rfl⟩ := twelve hZ
  kernel_rfl
theorem tl_blk {G : Mem} {l : List TT} {xs : List Value} {r : Nat} {ty : TypeId} {n : Nat} (h : TO G l xs) (hn : l.length = n) (hm : (⟨r, xs.toArray, ty⟩ : Blk) ∈ G) (hl : n ≤ 1000) : TL G l (.slice (some ⟨r, 0, none⟩) n n) xs := by
  subst hn
  refine ⟨by simp only [maxLen]; omega, .inr ⟨r, 0, l.length, _, ty, rfl, Nat.le_refl _, hm, h.1, by have := h.1; simp; omega, fun j u hu => by rw [Nat.zero_add]; simpa using hu⟩, h.2⟩
end Go.Proofs.Ytfldnikepdbgkaa
namespace Go.Proofs.Ytfldnikepdbgkaa
open Go Go.RowKit
theorem hap_push (es : List Ev) (e : Ev) (who tok : Int) : hap (es ++ [e]) who tok = (hap es who tok || hit who tok e) := by simp [hap]
def stE (es : List Ev) (i : Nat) : Bool := if i < 6 then (decide (i % 3 ≠ 0) && hap es ((i / 3 : Nat) : Int) ((i % 3 : Nat) : Int)) else (decide (9 ≤ i) && hap es (-1) ((i - 6 : Nat) : Int))
abbrev kst (s : Nat → Bool) : Array Value := arrv 14 (fun i => .bool (s i))
theorem stE_nil (i : Nat) : stE [] i = false := by unfold stE; split <;> simp [hap]
theorem stE_key {es : List Ev} {w k : Nat} (hk : k = 1 ∨ k = 2) (hw : w < 2) : stE es (3 * w + k) = hap es (w : Int) (k : Int) := by
  have h1 : (3 * w + k) / 3 = w ∧ (3 * w + k) % 3 = k := by omega
  rw [stE, if_pos (by omega), h1.1, h1.2, decide_eq_true (by omega)]; rfl
theorem stE_been {es : List Ev} {t : Nat} (h3 : 3 ≤ t) : stE es (6 + t) = hap es (-1) (t : Int) := by
  rw [stE, if_neg (by omega), decide_eq_true (by omega), show 6 + t - 6 = t by omega]; rfl
theorem stE_push_key {es : List Ev} {w k : Nat} (hk : k = 1 ∨ k = 2) (hw : w < 2) (j : Nat) : stE (es ++ [(w, k)]) j = (stE es j || decide (j = 3 * w + k)) := by
  unfold stE
  by_cases h6 : j < 6
  · rw [if_pos h6, if_pos h6, hap_push]
    have e : hit ((j / 3 : Nat) : Int) ((j % 3 : Nat) : Int) (w, k) = decide (j = 3 * w + k) := by
      unfold hit
      rw [Bool.eq_iff_iff]
      simp only [Bool.and_eq_true, Bool.or_eq_true, decide_eq_true_eq]
      omega
    rw [e]
    by_cases h0 : j % 3 = 0
    · have h1 : ¬ j = 3 * w + k := by omega
      simp [h0, h1]
    · simp [h0]
  · rw [if_neg h6, if_neg h6, hap_push]
    have e : hit (-1) ((j - 6 : Nat) : Int) (w, k) = decide (k = j - 6) := by
      unfold hit
      rw [Bool.eq_iff_iff]
      simp only [Bool.and_eq_true, Bool.or_eq_true, decide_eq_true_eq]
      omega
    rw [e]
    have h1 : ¬ j = 3 * w + k := by omega
    by_cases h9 : 9 ≤ j
    · have h2 : ¬ k = j - 6 := by omega
      simp [h1, h2]
    · simp [h1, h9]
theorem stE_push_tok {es : List Ev} {w t : Nat} (h3 : 3 ≤ t) (h7 : t ≤ 7) (j : Nat) : stE (es ++ [(w, t)]) j = (stE es j || decide (j = 6 + t)) := by
  unfold stE
  by_cases h6 : j < 6
  · rw [if_pos h6, if_pos h6, hap_push]
    have e : hit ((j / 3 : Nat) : Int) ((j % 3 : Nat) : Int) (w, t) = false := by
      unfold hit
      rw [decide_eq_false (by show ¬ ((t : Int) = _); omega)]; rfl
    have h1 : ¬ j = 6 + t := by omega
    rw [e]; simp [h1]
  · rw [if_neg h6, if_neg h6, hap_push]
    have e : hit (-1) ((j - 6 : Nat) : Int) (w, t) = decide (j = 6 + t) := by
      unfold hit
      rw [Bool.eq_iff_iff]
      simp only [Bool.and_eq_true, Bool.or_eq_true, decide_eq_true_eq]
      omega
    rw [e]
    by_cases h9 : 9 ≤ j
    · simp [h9]
    · have h1 : ¬ j = 6 + t := by omega
      simp [h1, h9]
theorem stE_push_zero {es : List Ev} {w : Nat} (j : Nat) : stE (es ++ [(w, 0)]) j = stE es j := by
  unfold stE
  by_cases h6 : j < 6
  · rw [if_pos h6, if_pos h6, hap_push]
    by_cases h0 : j % 3 = 0
    · simp [h0]
    · have e : hit ((j / 3 : Nat) : Int) ((j % 3 : Nat) : Int) (w, 0) = false := by
        unfold hit
        rw [decide_eq_false (by show ¬ (((0 : Nat) : Int) = _); omega)]; rfl
      rw [e]; simp
  · rw [if_neg h6, if_neg h6, hap_push]
    by_cases h9 : 9 ≤ j
    · have e : hit (-1) ((j - 6 : Nat) : Int) (w, 0) = false := by
        unfold hit
        rw [decide_eq_false (by show ¬ (((0 : Nat) : Int) = _); omega)]; rfl
      rw [e]; simp
    · simp [h9]
theorem kst_zero {es : List Ev} {w : Nat} : kst (stE (es ++ [(w, 0)])) = kst (stE es) := arrv_congr fun j _ => by rw [stE_push_zero]
theorem kst_key {es : List Ev} {w k : Nat} (hk : k = 1 ∨ k = 2) (hw : w < 2) : arrv 14 (updv (fun i => .bool (stE es i)) (3 * w + k) (.bool true)) = kst (stE (es ++ [(w, k)])) := arrv_congr fun j _ => by
  rw [stE_push_key hk hw, updv]
  by_cases e : j = 3 * w + k
  · rw [if_pos e, decide_eq_true e, Bool.or_true]
  · rw [if_neg e, decide_eq_false e, Bool.or_false]
theorem kst_tok {es : List Ev} {w t : Nat} (h3 : 3 ≤ t) (h7 : t ≤ 7) : arrv 14 (updv (fun i => .bool (stE es i)) (6 + t) (.bool true)) = kst (stE (es ++ [(w, t)])) := arrv_congr fun j _ => by
  rw [stE_push_tok h3 h7, updv]
  by_cases e : j = 6 + t
  · rw [if_pos e, decide_eq_true e, Bool.or_true]
  · rw [if_neg e, decide_eq_false e, Bool.or_false]
def mlS (s : Nat → Bool) (w : Nat) : Bool := !(s 13 && !(s (3 * w + 1))) && (!(s (6 + mown w) && !(s 9)) && (!(s 12) || s (6 + mfre w)))
theorem mlS_stE {es : List Ev} {w : Nat} (hw : w < 2) : mlS (stE es) w = (!(locksE es) || mlock es w) := by
  have a13 : stE es 13 = hap es (-1) 7 := stE_been (es := es) (t := 7) (by decide)
  have a9 : stE es 9 = hap es (-1) 3 := stE_been (es := es) (t := 3) (by decide)
  have a12 : stE es 12 = hap es (-1) 6 := stE_been (es := es) (t := 6) (by decide)
  have a10 : stE es (6 + 4) = hap es (-1) 4 := stE_been (es := es) (t := 4) (by decide)
  have a11 : stE es (6 + 5) = hap es (-1) 5 := stE_been (es := es) (t := 5) (by decide)
  have hw2 : w = 0 ∨ w = 1 := by omega
  rcases hw2 with rfl | rfl
  · have ak : stE es (3 * 0 + 1) = hap es 0 1 := stE_key (es := es) (w := 0) (k := 1) (.inl rfl) (by decide)
    have m1 : mown ((0 : Nat) : Int) = 5 := rfl
    have m2 : mfre ((0 : Nat) : Int) = 4 := rfl
    rw [mlS, m1, m2, a13, a9, a12, a10, a11, ak, mlock, m1, m2, locksE]
    show _ = (!_ || (!(hap es (-1) 7 && !(hap es 0 1)) && ((!(hap es (-1) 5) || hap es (-1) 3) && (!(hap es (-1) 6) || hap es (-1) 4))))
    generalize hap es (-1) 7 = x7
    generalize hap es (-1) 3 = x3
    generalize hap es (-1) 4 = x4
    generalize hap es (-1) 5 = x5
    generalize hap es (-1) 6 = x6
    generalize hap es 0 1 = x1
    cases x7 <;> cases x3 <;> cases x4 <;> cases x5 <;> cases x6 <;> cases x1 <;> rfl
  · have ak : stE es (3 * 1 + 1) = hap es 1 1 := stE_key (es := es) (w := 1) (k := 1) (.inl rfl) (by decide)
    have m1 : mown ((1 : Nat) : Int) = 4 := rfl
    have m2 : mfre ((1 : Nat) : Int) = 5 := rfl
    rw [mlS, m1, m2, a13, a9, a12, a10, a11, ak, mlock, m1, m2, locksE]
    show _ = (!_ || (!(hap es (-1) 7 && !(hap es 1 1)) && ((!(hap es (-1) 4) || hap es (-1) 3) && (!(hap es (-1) 6) || hap es (-1) 5))))
    generalize hap es (-1) 7 = x7
    generalize hap es (-1) 3 = x3
    generalize hap es (-1) 4 = x4
    generalize hap es (-1) 5 = x5
    generalize hap es (-1) 6 = x6
    generalize hap es 1 1 = x1
    cases x7 <;> cases x3 <;> cases x4 <;> cases x5 <;> cases x6 <;> cases x1 <;> rfl
def ltr (t : Nat) : Nat → Nat := fun j => if t = 3 then 1 else if t = 4 then (if j = 0 then 1 else 2) else if t = 5 then (if j = 0 then 2 else 1) else 2
theorem ltr_in (t j : Nat) : ltr t j = 1 ∨ ltr t j = 2 := by
  unfold ltr
  repeat' split
  all_goals omega
def mixB (s : Nat → Bool) (t : Nat) : Bool := s (6 + t) || !(s (ltr t 0)) || !(s (3 + ltr t 1))
theorem mixB_stE {es : List Ev} {w t : Nat} (h3 : 3 ≤ t) (h6 : t ≤ 6) : mixB (stE es) t = !(okT es w t) := by
  have k0 : stE es (ltr t 0) = hap es 0 (ltr t 0 : Nat) := by
    have := stE_key (es := es) (w := 0) (ltr_in t 0) (by decide)
    simpa using this
  have k1 : stE es (3 + ltr t 1) = hap es 1 (ltr t 1 : Nat) := by
    have := stE_key (es := es) (w := 1) (ltr_in t 1) (by decide)
    simpa using this
  rw [mixB, stE_been h3, k0, k1]
  have ht : t = 3 ∨ t = 4 ∨ t = 5 ∨ t = 6 := by omega
  have b3 : ∀ a b c : Bool, (a || !b || !c) = !((b && c) && !a) := by decide
  rcases ht with rfl | rfl | rfl | rfl
  · exact b3 _ _ _
  · exact b3 _ _ _
  · exact b3 _ _ _
  · exact b3 _ _ _
theorem okT_one (es : List Ev) (w : Nat) : okT es w 1 = !(hap es w 1) := rfl
theorem okT_two {es : List Ev} {w : Nat} (hw : w < 2) : okT es w 2 = (mlS (stE es) w && !(hap es w 2)) := by
  rw [mlS_stE hw]
  show (!(hap es w 2) && (!(locksE es) || mlock es w)) = _
  rw [Bool.and_comm]
theorem okT_zero {es : List Ev} {w : Nat} (hw : w < 2) : okT es w 0 = mlS (stE es) w := by rw [mlS_stE hw]; rfl
theorem okPre_tok {es : List Ev} {a x : Nat} : okPre es (a, x) = (decide (x ≤ 2) && !(hap es a x)) := by
  unfold okPre
  by_cases h : x ≤ 2
  · have h2 : decide (2 < ((x : Nat) : Int)) = false := decide_eq_false (by omega)
    show (!(decide (2 < ((x : Nat) : Int)) || _)) = _
    rw [h2, decide_eq_true h]; rfl
  · have h2 : decide (2 < ((x : Nat) : Int)) = true := decide_eq_true (by omega)
    show (!(decide (2 < ((x : Nat) : Int)) || _)) = _
    rw [h2, decide_eq_false h]; rfl
theorem first1_toks {ls : List (List Nat)} (h : first1 (ls.map ci) = 0) : ∀ q ∈ ls, q.length ≤ 6 ∧ ∀ x ∈ q, 1 ≤ x ∧ x ≤ 7 := fun q hq => by
  obtain ⟨h1, h2⟩ := first1_zero h (ci q) (List.mem_map.2 ⟨q, hq, rfl⟩)
  refine ⟨by simpa using h1, fun x hx => ?_⟩
  rw [List.any_eq_false] at h2
  have := h2 (x : Int) (List.mem_map.2 ⟨x, hx, rfl⟩)
  simp [wrong] at this
  omega
theorem first1_split (p0 p1 : List Int) (ts : List (List Int)) : first1 (p0 :: p1 :: ts) = if first1 [p0, p1] = 0 then first1 ts else first1 [p0, p1] := by
  simp only [first1]
  repeat' split
  all_goals first | rfl | contradiction
end Go.Proofs.Ytfldnikepdbgkaa
namespace Go.Proofs.Ytfldnikepdbgkaa
open Go Go.RowKit
abbrev rowE (w : Nat) (l : List Nat) : List Ev := l.map fun x => (w, x)
def okPR (es : List Ev) (a : Nat) (l : List Nat) : Bool := (List.range l.length).all fun j => okPre (es ++ (rowE a l).take j) (a, l.getD j 0)
def okTR (es : List Ev) (w : Nat) (l : List Nat) : Bool := (List.range (l.length + 1)).all fun j => okT (es ++ (rowE w (l ++ [0])).take j) w ((l ++ [0]).getD j 0)
theorem rowE_next {es : List Ev} {w j : Nat} {l : List Nat} (h : j < l.length) : es ++ (rowE w l).take (j + 1) = (es ++ (rowE w l).take j) ++ [(w, l.getD j 0)] := by
  rw [List.take_add_one, List.append_assoc, List.getElem?_map, List.getElem?_eq_getElem h, List.getD_eq_getElem?_getD, List.getElem?_eq_getElem h]; rfl
theorem rowE_zero {es : List Ev} {w : Nat} {l : List Nat} : es ++ (rowE w l).take 0 = es := by simp
theorem rowE_all {es : List Ev} {w : Nat} {l : List Nat} : es ++ (rowE w l).take l.length = es ++ rowE w l := by
  rw [List.take_of_length_le (by simp)]
theorem all_true {n : Nat} {f : Nat → Bool} (h : ∀ j, j < n → f j = true) : (List.range n).all f = true := by
  rw [List.all_eq_true]; exact fun j hj => h j (by simpa using hj)
theorem all_false {n j : Nat} {f : Nat → Bool} (hj : j < n) (h : f j = false) : (List.range n).all f = false := by
  rw [List.all_eq_false]; exact ⟨j, by simpa using hj, by rw [h]; decide⟩
theorem all_at {n : Nat} {f : Nat → Bool} (h : (List.range n).all f = true) : ∀ j, j < n → f j = true := fun j hj => by
  rw [List.all_eq_true] at h; exact h j (by simpa using hj)
theorem all_not {n : Nat} {f : Nat → Bool} (h : (List.range n).all f = false) : ∃ j, j < n ∧ f j = false := by
  rw [List.all_eq_false] at h
  obtain ⟨j, h1, h2⟩ := h
  exact ⟨j, by simpa using h1, by simpa using h2⟩
theorem rowZ_take {w j : Nat} {l : List Nat} (h : j ≤ l.length) : (rowE w (l ++ [0])).take j = (rowE w l).take j := by
  rw [rowE, List.map_append, List.take_append_of_le_length (by simpa using h)]
theorem rowZ_at {j : Nat} {l : List Nat} (h : j < l.length) : (l ++ [0]).getD j 0 = l.getD j 0 := by
  rw [List.getD_eq_getElem?_getD, List.getElem?_append_left h, ← List.getD_eq_getElem?_getD]
theorem rowZ_end {l : List Nat} : (l ++ [0]).getD l.length 0 = 0 := by
  rw [List.getD_eq_getElem?_getD, List.getElem?_append_right (Nat.le_refl _), Nat.sub_self]; rfl
theorem okTR_step {es : List Ev} {w j : Nat} {l : List Nat} (h : j < l.length) : okT (es ++ (rowE w (l ++ [0])).take j) w ((l ++ [0]).getD j 0) = okT (es ++ (rowE w l).take j) w (l.getD j 0) := by
  rw [rowZ_take (by omega), rowZ_at h]
theorem okTR_last {es : List Ev} {w : Nat} {l : List Nat} : okT (es ++ (rowE w (l ++ [0])).take l.length) w ((l ++ [0]).getD l.length 0) = okT (es ++ rowE w l) w 0 := by
  rw [rowZ_take (Nat.le_refl _), rowZ_end, rowE_all]
theorem okTR_bad {es : List Ev} {w j : Nat} {l : List Nat} (h : j < l.length) (hf : okT (es ++ (rowE w l).take j) w (l.getD j 0) = false) : okTR es w l = false :=
  all_false (j := j) (by omega) (by rw [okTR_step h]; exact hf)
theorem okTR_fin {es : List Ev} {w : Nat} {l : List Nat} (h : ∀ j, j < l.length → okT (es ++ (rowE w l).take j) w (l.getD j 0) = true) : okTR es w l = okT (es ++ rowE w l) w 0 := by
  cases hz : okT (es ++ rowE w l) w 0 with
  | true =>
    refine all_true fun j hj => ?_
    by_cases e : j = l.length
    · subst e; rw [okTR_last]; exact hz
    · rw [okTR_step (by omega)]; exact h j (by omega)
  | false => exact all_false (j := l.length) (by omega) (by rw [okTR_last]; exact hz)
theorem kst_rowZ {es : List Ev} {w : Nat} {l : List Nat} : kst (stE (es ++ rowE w l)) = kst (stE (es ++ rowE w (l ++ [0]))) := by
  rw [show es ++ rowE w (l ++ [0]) = (es ++ rowE w l) ++ [(w, 0)] by simp [rowE], kst_zero]
theorem okPR_bad {es : List Ev} {a j : Nat} {l : List Nat} (h : j < l.length) (hf : okPre (es ++ (rowE a l).take j) (a, l.getD j 0) = false) : okPR es a l = false := all_false h hf
theorem okPR_ok {es : List Ev} {a : Nat} {l : List Nat} (h : ∀ j, j < l.length → okPre (es ++ (rowE a l).take j) (a, l.getD j 0) = true) : okPR es a l = true := all_true h
theorem uptoE_part (L : List (List Ev)) (i j : Nat) : uptoE L i j = uptoE L i 0 ++ (L.getD i []).take j := by simp [uptoE]
theorem pre_row {L : List (List Ev)} {a : Nat} {q : List Nat} (ha : a < 2) (hq : L.getD a [] = rowE a q) {j : Nat} (hj : j < q.length) : okAt L a j = okPre (uptoE L a 0 ++ (rowE a q).take j) (a, q.getD j 0) := by
  rw [okAt, if_pos ha, uptoE_part, hq, map_at hj]
theorem turn_row {L : List (List Ev)} {i w : Nat} {u : List Nat} (hq : L.getD (2 + i) [] = rowE w (u ++ [0])) {j : Nat} (hj : j < u.length + 1) : okAt L (2 + i) j = okT (uptoE L (2 + i) 0 ++ (rowE w (u ++ [0])).take j) w ((u ++ [0]).getD j 0) := by
  rw [okAt, if_neg (by omega), uptoE_part, hq, map_at (by simpa using hj)]; rfl
theorem pre_bad {L : List (List Ev)} {a : Nat} {q : List Nat} (hL : 2 ≤ L.length) (ha : a < 2) (hq : L.getD a [] = rowE a q) (h : okPR (uptoE L a 0) a q = false) : fin3 L = 3 := by
  obtain ⟨j, hj, hf⟩ := all_not h
  exact fin3_bad (i := a) (j := j) (by omega) (by rw [hq]; simpa using hj) (by rw [pre_row ha hq hj]; exact hf)
theorem pre_ok {L : List (List Ev)} {a : Nat} {q : List Nat} (ha : a < 2) (hq : L.getD a [] = rowE a q) (h : okPR (uptoE L a 0) a q = true) : ∀ t, t < (L.getD a []).length → okAt L a t = true := fun t ht => by
  have ht : t < q.length := by rw [hq] at ht; simpa using ht
  rw [pre_row ha hq ht]; exact all_at h t ht
theorem turn_bad {L : List (List Ev)} {i w : Nat} {u : List Nat} (hL : 2 + i < L.length) (hq : L.getD (2 + i) [] = rowE w (u ++ [0])) (h : okTR (uptoE L (2 + i) 0) w u = false) : fin3 L = 3 := by
  obtain ⟨j, hj, hf⟩ := all_not h
  exact fin3_bad (i := 2 + i) (j := j) hL (by rw [hq]; simpa using hj) (by rw [turn_row hq hj]; exact hf)
theorem turn_ok {L : List (List Ev)} {i w : Nat} {u : List Nat} (hq : L.getD (2 + i) [] = rowE w (u ++ [0])) (h : okTR (uptoE L (2 + i) 0) w u = true) : ∀ t, t < (L.getD (2 + i) []).length → okAt L (2 + i) t = true := fun t ht => by
  have ht : t < u.length + 1 := by rw [hq] at ht; simpa using ht
  rw [turn_row hq ht]; exact all_at h t ht
theorem row_next {L : List (List Ev)} {i : Nat} (hi : i < L.length) : uptoE L i 0 ++ L.getD i [] = uptoE L (i + 1) 0 := by
  rw [← uptoE_row hi, uptoE_part L i (L.getD i []).length, List.take_length]
theorem whoT_lt (late : Bool) (i : Nat) : whoT late i < 2 := by unfold whoT; split <;> omega
theorem whoT_next (late : Bool) (i : Nat) : 1 - whoT late i = whoT late (i + 1) := by
  unfold whoT
  split <;> omega
theorem pre_two {r : Nat} {t : TypeId} {b c d v0 v1 e : Value} : Shows [(⟨r, cells 6 [pV b, pV c, pV d, pV v0, pV v1, pV e], t⟩ : Blk)] 1 (.slice (some ⟨r, 3, none⟩) 2 2) [v0, v1].length [v0, v1] :=
  .inr ⟨r, 3, 2, cells 6 [pV b, pV c, pV d, pV v0, pV v1, pV e], t, rfl, Nat.le_refl _, List.mem_singleton.2 rfl, rfl, by rw [arrv_size]; exact (by decide : 3 + 2 * 1 ≤ 6), fun j u hj => by
    match j, hj with
    | 0, hj => exact hj
    | 1, hj => exact hj
    | j + 2, hj => simp at hj⟩
theorem li_two {B : Mem} {v0 v1 : Value} {vs : List Value} {p0 p1 : List Int} {ts : List (List Int)} (h : ShowsLI B (v0 :: v1 :: vs) (p0 :: p1 :: ts)) : ShowsLI B [v0, v1] [p0, p1] := ⟨rfl, fun i hi => by
  match i, hi with
  | 0, _ => exact h.2 0 (by simp)
  | 1, _ => exact h.2 1 (by simp)
  | i + 2, hi => exact absurd hi (by simp)⟩
end Go.Proofs.Ytfldnikepdbgkaa
namespace Go.Proofs.Ytfldnikepdbgkaa
open Go Go.RowKit
end Go.Proofs.Ytfldnikepdbgkaa
namespace Go.Proofs.Ytfldnikepdbgkaa
open Go Go.RowKit
end Go.Proofs.Ytfldnikepdbgkaa
namespace Go.Proofs.Ytfldnikepdbgkaa
open Go Go.RowKit
def hW (l : List Nat) (k : Nat) : Nat := (l.getD k 0 * 637696617 + l.getD (k + 1) 0 * 16777619 + l.getD (k + 2) 0) % 4294967296
end Go.Proofs.Ytfldnikepdbgkaa
namespace Go.Proofs.Ytfldnikepdbgkaa
open Go Go.RowKit
end Go.Proofs.Ytfldnikepdbgkaa
namespace Go.Proofs.Ytfldnikepdbgkaa
open Go Go.RowKit
section
variable {P : Program} {G : Mem} {R : Reg} {M : Mm}
theorem seen_sub {A : Mem} (h : ∀ x ∈ A, x ∈ G) : SeenE G R M A := fun z hz => .inl (h z hz)
end
end Go.Proofs.Ytfldnikepdbgkaa
namespace Go.Proofs.Ytfldnikepdbgkaa
open Go Go.RowKit
end Go.Proofs.Ytfldnikepdbgkaa
namespace Go.Proofs.Ytfldnikepdbgkaa
open Go Go.RowKit
end Go.Proofs.Ytfldnikepdbgkaa
namespace Go.Proofs.Ytfldnikepdbgkaa
open Go Go.RowKit
end Go.Proofs.Ytfldnikepdbgkaa
namespace Go.Proofs.Ytfldnikepdbgkaa
open Go Go.RowKit
end Go.Proofs.Ytfldnikepdbgkaa
