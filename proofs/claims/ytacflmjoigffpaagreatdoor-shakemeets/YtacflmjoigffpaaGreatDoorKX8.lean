import Derived.Test.YtacflmjoigffpaaGreatDoorKX7
import Derived.Test.YtacflmjoigffpaaGreatDoorRows
import Derived.Shelf.Strings.OnBuilder
import Derived.ProofKit
import Derived.OpenShut
import Derived.LaidMore
import Derived.Lay
import Derived.MakeChecks
set_option maxHeartbeats 4000000
namespace Go.Proofs.YtacflmjoigffpaaGreatDoor
open Go Go.RowKit
theorem z33 {f g : Nat → Nat} (h : ky f = ky g) : ∀ j, j < 32 → f j = g j := fun j hj => by
 have h1 : (ky f).getD j 0 = (ky g).getD j 0 := by rw [h]
 simpa [ky, List.getD_eq_getElem?_getD, hj] using h1
theorem zf0 {f g : Nat → Nat} (h : ky f = ky g) : pnt f = pnt g := by
 unfold pnt
 rw [X4 32 (fun j hj => z33 h j hj)]
theorem ziE {l : List Nat} (hl : 32 ≤ l.length) : ky (fun j => l.getD j 0) = l.take 32 := by
 apply List.ext_getElem
 ·simp; omega
 ·intro i h1 h2
  have hi : i < l.length := by simp at h1; omega
  simp [ky, List.getD_eq_getElem?_getD, List.getElem?_eq_getElem hi]
theorem z9C (f : Nat → Nat) (rest : List Nat) : ky (fun j => (ky f ++ rest).getD j 0) = ky f := by
 rw [ziE (by simp)]
 rw [List.take_append_of_le_length (by simp), List.take_of_length_le (by simp)]
theorem ZR {a b g h : Nat → Nat} (ha : B32 a) (hb : B32 b) (hg : ky g = ky (zN b)) (hh : ky h = ky (zN a)) : Xv a g = Xv b h ∧ Xv a g ≠ 0 := by
 have e1 : pnt g = Yc 9 (sec b) := by rw [zf0 hg]; exact zgo (vK _ _)
 have e2 : pnt h = Yc 9 (sec a) := by rw [zf0 hh]; exact zgo (vK _ _)
 unfold Xv
 rw [e1, e2]
 exact ⟨z71 (by decide) (Xp ha).2 (Xp hb).2 (z9y a) (z9y b), zc1 (Vk a) (Xp ha).1 (Xp ha).2 (Vk b) (Xp hb).1 (Xp hb).2⟩
theorem z3d {y : SY} {tx : List Nat} {c : Nat} (hk : okC y.1 y.2.1 y.2.2.1 = true) (hn : y.2.2.1 ≤ c) (hc : c < 9223372036854775808) (ht : tx.length ≤ 800) (hb : ∀ x ∈ tx, x < 256) :
  ∃ y2 cs, xj y tx = (0, y2, cs) ∧ yA y cs = (0, y2, tx) ∧ cs.length = tx.length + (if y.1 then 16 else 0) ∧ okC y2.1 y2.2.1 y2.2.2.1 = true ∧ y2.2.2.1 ≤ c + 1 ∧ y2.1 = y.1 ∧ (∀ x ∈ cs, x < 256) := by
 obtain ⟨has, k, n, ch, h⟩ := y
 dsimp only at hk hn ⊢
 unfold xj yA
 dsimp only
 cases has with
 | false =>
  rw [if_neg (by rw [hk]; decide), if_pos rfl, if_neg (by omega)]
  refine ⟨y6 (false, k, n, ch, h) tx, tx, rfl, ?_, rfl, hk, ?_, rfl, hb⟩
  ·rw [if_neg (by rw [hk]; decide), if_pos rfl, if_neg (by omega)]
  ·show n ≤ c + 1; omega
 | true =>
  rw [if_neg (by rw [hk]; decide), if_neg (by decide), if_neg (by omega), if_neg (by omega)]
  refine ⟨_, _, rfl, ?_, xB _ _ _ _, rfl, ?_, rfl, z15 _ _ _ _⟩
  ·have e := z81 k (xT n) (ky h) tx
   unfold XO at e
   rw [if_neg (by rw [hk]; decide), if_neg (by decide), if_neg (by omega), if_neg (by rw [xB]; omega), if_neg (by rw [xB]; omega), if_pos e, zaC _ _ _ hb]
  ·show n + 1 ≤ c + 1; omega
abbrev FL := Bool × Bool × Bool × Bool
structure Meet (ow ow' : Nat → Nat) (c : Nat) (F : FL) (s s' : SS) : Prop where
 y : s.1 = s'.1
 u : s.2.2 = s'.2.2
 ok : okC s.1.1 s.1.2.1 s.1.2.2.1 = true
 n : s.1.2.2.1 ≤ c
 f1 : s.2.1.2.1 = F.1
 f2 : s'.2.1.2.2.2.2.2 = F.1
 g1 : s'.2.1.2.1 = F.2.1
 g2 : s.2.1.2.2.2.2.2 = F.2.1
 k1 : s.2.1.2.2.2.1 = F.2.2.1
 k2 : s'.2.1.2.2.2.1 = F.2.2.2
 fk : F.1 = true → B32 s.2.1.1 ∧ ky s'.2.1.2.2.2.2.1 = ky (zN s.2.1.1)
 gk : F.2.1 = true → B32 s'.2.1.1 ∧ ky s.2.1.2.2.2.2.1 = ky (zN s'.2.1.1)
 lk : F.2.2.1 = true → ky s.2.1.2.2.1 = ky (zN ow')
 jk : F.2.2.2 = true → ky s'.2.1.2.2.1 = ky (zN ow)
def z4W (F : FL) : FL := (F.2.1, F.1, F.2.2.2, F.2.2.1)
theorem Meet.swap {ow ow' : Nat → Nat} {c : Nat} {F : FL} {s s' : SS} (h : Meet ow ow' c F s s') : Meet ow' ow c (z4W F) s' s :=
 ⟨h.y.symm, h.u.symm, by rw [← h.y]; exact h.ok, by rw [← h.y]; exact h.n, h.g1, h.g2, h.f1, h.f2, h.k2, h.k1, h.gk, h.fk, h.jk, h.lk⟩
theorem Meet.more {ow ow' : Nat → Nat} {c d : Nat} {F : FL} {s s' : SS} (h : Meet ow ow' c F s s') (hd : c ≤ d) : Meet ow ow' d F s s' :=
 ⟨h.y, h.u, h.ok, by have := h.n; omega, h.f1, h.f2, h.g1, h.g2, h.k1, h.k2, h.fk, h.gk, h.lk, h.jk⟩
def z9w (fi : Bool) (np : Nat) (t : Nat) (F : FL) (u : Nat) : Bool :=
 if t = 1 ∨ t = 2 then true
 else if t = 3 then F.1 && F.2.1
 else if t = 4 then (if fi then F.1 && F.2.2.1 else F.2.1 && F.2.2.2)
 else if t = 5 then (if fi then F.2.1 && F.2.2.2 else F.1 && F.2.2.1)
 else if t = 6 then F.2.2.1 && F.2.2.2
 else if t = 7 then decide (u < np) else false
def z37 (t : Nat) (F : FL) : FL := if t = 1 then (true, F.2) else if t = 2 then (F.1, F.2.1, F.2.2.1, true) else F
def Wp (fi : Bool) (np : Nat) : List Nat → FL → Nat → Bool
 | [], _, _ => true
 | t :: q, F, u => z9w fi np t F u && Wp fi np q (z37 t F) (if t = 7 then u + 1 else u)
def z3v : List Nat → FL → FL
 | [], F => F
 | t :: q, F => z3v q (z37 t F)
theorem zbU {fi : Bool} {ow ow' : Nat → Nat} {ps : List (Nat → Nat)} {c t : Nat} {F : FL} {s s' : SS} (h : Meet ow ow' c F s s') (ho : B32 ow) (ho' : B32 ow') (ht : t ≠ 1) (ht2 : t ≠ 2) (hn : z9w fi ps.length t F s.2.2 = true) :
  ∃ z z', xe fi ow ps t s = (0, z) ∧ xe (!fi) ow' ps t s' = (0, z') ∧ Meet ow ow' c F z z' ∧ z.2.2 = (if t = 7 then s.2.2 + 1 else s.2.2) := by
 obtain ⟨y, r, u⟩ := s
 obtain ⟨y', r', u'⟩ := s'
 obtain rfl : y = y' := h.y
 obtain rfl : u = u' := h.u
 have hn0 := hn
 unfold z9w at hn
 rw [if_neg (by omega)] at hn
 by_cases h7 : t = 7
 ·subst h7
  have hu : u < ps.length := by simpa using hn
  refine ⟨(z4E y (ky (Yu ps u)), r, u + 1), (z4E y (ky (Yu ps u)), r', u + 1), by unfold xe; rw [if_pos rfl, if_neg (show ¬ ps.length ≤ u by omega)], by unfold xe; rw [if_pos rfl, if_neg (show ¬ ps.length ≤ u by omega)], ⟨rfl, rfl, rfl, Nat.zero_le _, h.f1, h.f2, h.g1, h.g2, h.k1, h.k2, h.fk, h.gk, h.lk, h.jk⟩, rfl⟩
 ·have key : z2e fi r t = true ∧ z2i fi r t = true ∧ z2e (!fi) r' t = true ∧ z2i (!fi) r' t = true ∧ Xv (Xy fi ow r t) (XC fi r t) = Xv (Xy (!fi) ow' r' t) (XC (!fi) r' t) ∧ Xv (Xy fi ow r t) (XC fi r t) ≠ 0 := by
   have f1 := h.f1; have f2 := h.f2; have g1 := h.g1; have g2 := h.g2; have k1 := h.k1; have k2 := h.k2
   have fk := h.fk; have gk := h.gk; have lk := h.lk; have jk := h.jk
   dsimp only at f1 f2 g1 g2 k1 k2 fk gk lk jk
   by_cases h3 : t = 3
   ·subst h3
    simp only [reduceIte, Bool.and_eq_true] at hn
    obtain ⟨p, q⟩ := hn
    have m := ZR (fk p).1 (gk q).1 (gk q).2 (fk p).2
    cases fi <;> exact ⟨f1.trans p, g2.trans q, g1.trans q, f2.trans p, m.1, m.2⟩
   by_cases h6 : t = 6
   ·subst h6
    simp only [reduceIte, Bool.and_eq_true, show ¬ (6 : Nat) = 3 by decide, show ¬ (6 : Nat) = 4 by decide, show ¬ (6 : Nat) = 5 by decide] at hn
    obtain ⟨p, q⟩ := hn
    have m := ZR ho ho' (lk p) (jk q)
    cases fi <;> exact ⟨rfl, k1.trans p, rfl, k2.trans q, m.1, m.2⟩
   by_cases h4 : t = 4
   ·subst h4
    cases fi with
    | true =>
     simp only [reduceIte, Bool.and_eq_true, show ¬ (4 : Nat) = 3 by decide] at hn
     obtain ⟨p, q⟩ := hn
     have m := ZR (fk p).1 ho' (lk q) (fk p).2
     exact ⟨f1.trans p, k1.trans q, rfl, f2.trans p, m.1, m.2⟩
    | false =>
     simp only [reduceIte, Bool.and_eq_true, show ¬ (4 : Nat) = 3 by decide, Bool.false_eq_true] at hn
     obtain ⟨p, q⟩ := hn
     have m := ZR ho (gk p).1 (gk p).2 (jk q)
     exact ⟨rfl, g2.trans p, g1.trans p, k2.trans q, m.1, m.2⟩
   by_cases h5 : t = 5
   ·subst h5
    cases fi with
    | true =>
     simp only [reduceIte, Bool.and_eq_true, show ¬ (5 : Nat) = 3 by decide, show ¬ (5 : Nat) = 4 by decide] at hn
     obtain ⟨p, q⟩ := hn
     have m := ZR ho (gk p).1 (gk p).2 (jk q)
     exact ⟨rfl, g2.trans p, g1.trans p, k2.trans q, m.1, m.2⟩
    | false =>
     simp only [reduceIte, Bool.and_eq_true, show ¬ (5 : Nat) = 3 by decide, show ¬ (5 : Nat) = 4 by decide, Bool.false_eq_true] at hn
     obtain ⟨p, q⟩ := hn
     have m := ZR (fk p).1 ho' (lk q) (fk p).2
     exact ⟨f1.trans p, k1.trans q, rfl, f2.trans p, m.1, m.2⟩
   rw [if_neg h3, if_neg h4, if_neg h5, if_neg h6, if_neg h7] at hn
   exact absurd hn (by decide)
  obtain ⟨a1, a2, b1, b2, m1, m2⟩ := key
  refine ⟨(Wm y (ky (bt (Xv (Xy fi ow r t) (XC fi r t)))), r, u), (Wm y (ky (bt (Xv (Xy fi ow r t) (XC fi r t)))), r', u), ?_, ?_, ⟨rfl, rfl, rfl, Nat.zero_le _, h.f1, h.f2, h.g1, h.g2, h.k1, h.k2, h.fk, h.gk, h.lk, h.jk⟩, by rw [if_neg h7]⟩
  ·unfold xe
   dsimp only
   rw [if_neg h7, if_neg (by rw [a1, a2]; decide), if_neg m2]
  ·unfold xe
   dsimp only
   rw [if_neg h7, if_neg (by rw [b1, b2]; decide), ← m1, if_neg m2]
theorem zbt {np : Bool} {y : SY} {f : Nat → Nat} (h : okC y.1 y.2.1 y.2.2.1 = true) : okC (zX np y f).1 (zX np y f).2.1 (zX np y f).2.2.1 = true := by
 unfold zX
 split
 ·rfl
 ·exact h
theorem zbq {np : Bool} {y : SY} {f : Nat → Nat} {c : Nat} (h : y.2.2.1 ≤ c) : (zX np y f).2.2.1 ≤ c := by
 unfold zX
 split
 ·exact Nat.zero_le _
 ·exact h
theorem zc7 {np : Bool} {y : SY} {f g : Nat → Nat} (h : ky f = ky g) : zX np y f = zX np y g := by
 unfold zX
 rw [h]
theorem zmc {fi : Bool} {ow : Nat → Nat} {ps : List (Nat → Nat)} {sc : Nat → Nat} {s : SS} : vw fi ow ps sc 1 s = (0, (zX (npk ps) s.1 (zN sc), (sc, true, s.2.1.2.2), s.2.2), ky (zN sc)) := by
 unfold vw; rw [if_pos rfl]
theorem zl4 {fi : Bool} {ow : Nat → Nat} {ps : List (Nat → Nat)} {f : Nat → Nat} {rest : List Nat} {s : SS} : v8 fi ow ps 1 s (ky f ++ rest) = (0, (zX (npk ps) s.1 (fun j => (ky f ++ rest).getD j 0), (s.2.1.1, s.2.1.2.1, s.2.1.2.2.1, s.2.1.2.2.2.1, (fun j => (ky f ++ rest).getD j 0), true), s.2.2), rest) := by
 have hd : (ky f ++ rest).drop 32 = rest := by
  rw [List.drop_append_of_le_length (by simp), List.drop_eq_nil_of_le (by simp)]; rfl
 unfold v8; rw [if_pos rfl, if_neg (by simp), hd]
theorem zle {fi : Bool} {ow : Nat → Nat} {ps : List (Nat → Nat)} {sc : Nat → Nat} {s : SS} {y2 : SY} {cs : List Nat} (h : xj s.1 (ky (zN ow)) = (0, y2, cs)) : vw fi ow ps sc 2 s = (0, (y2, s.2), cs) := by
 unfold vw; rw [if_neg (by decide), if_pos rfl, h]
theorem zmf {fi : Bool} {ow : Nat → Nat} {ps : List (Nat → Nat)} {cs tx rest : List Nat} {s : SS} {y2 : SY} (hl : cs.length = yW s.1) (h : yA s.1 cs = (0, y2, tx)) : v8 fi ow ps 2 s (cs ++ rest) = (0, (y2, (s.2.1.1, s.2.1.2.1, (fun j => tx.getD j 0), true, s.2.1.2.2.2.2), s.2.2), rest) := by
 have ht : (cs ++ rest).take (yW s.1) = cs := by rw [List.take_append_of_le_length (by omega), List.take_of_length_le (by omega)]
 have hd : (cs ++ rest).drop (yW s.1) = rest := by rw [List.drop_append_of_le_length (by omega), List.drop_eq_nil_of_le (by omega)]; rfl
 unfold v8; rw [if_neg (by decide), if_pos rfl, if_neg (by rw [List.length_append]; omega), ht, hd, h, if_pos rfl]
theorem z5r {fi : Bool} {ow ow' : Nat → Nat} {ps : List (Nat → Nat)} {sc : Nat → Nat} {c t : Nat} {F : FL} {s s' : SS} (h : Meet ow ow' c F s s') (ho : B32 ow) (ho' : B32 ow') (hs : B32 sc) (hc : c < 9223372036854775807) (hn : z9w fi ps.length t F s.2.2 = true) (rest : List Nat) :
  ∃ z z' pc, vw fi ow ps sc t s = (0, z, pc) ∧ v8 (!fi) ow' ps t s' (pc ++ rest) = (0, z', rest) ∧ Meet ow ow' (c + 1) (z37 t F) z z' ∧ z.2.2 = (if t = 7 then s.2.2 + 1 else s.2.2) ∧ pc.length ≤ 48 := by
 obtain ⟨y, r, u⟩ := s
 obtain ⟨y', r', u'⟩ := s'
 obtain rfl : y = y' := h.y
 obtain rfl : u = u' := h.u
 by_cases h1 : t = 1
 ·subst h1
  have hk := z9C (zN sc) rest
  refine ⟨_, _, _, zmc, zl4 (f := zN sc) (rest := rest), ⟨(zc7 hk).symm, rfl, zbt h.ok, by have := zbq (np := npk ps) (f := zN sc) h.n; exact Nat.le_succ_of_le this, rfl, rfl, h.g1, h.g2, h.k1, h.k2, fun _ => ⟨hs, hk⟩, h.gk, h.lk, h.jk⟩, rfl, by simp⟩
 by_cases h2 : t = 2
 ·subst h2
  obtain ⟨y2, cs, e1, e2, e3, e4, e5, _, _⟩ := z3d (c := c) h.ok h.n (by omega) (tx := ky (zN ow)) (by simp) (ZE (wo ow))
  dsimp only at e1 e2 e3
  have hl : cs.length = yW y := by rw [e3, z1s]; unfold yW; split <;> rfl
  have hk : ky (fun j => (ky (zN ow)).getD j 0) = ky (zN ow) := by
   have := z9C (zN ow) []
   rwa [List.append_nil] at this
  refine ⟨_, _, _, zle e1, zmf (rest := rest) hl e2, ⟨rfl, rfl, e4, e5, h.f1, h.f2, h.g1, h.g2, h.k1, rfl, h.fk, h.gk, h.lk, fun _ => hk⟩, rfl, by rw [hl]; unfold yW; split <;> omega⟩
 ·obtain ⟨z, z', e1, e2, e3, e4⟩ := zbU (fi := fi) (ps := ps) (t := t) h ho ho' h1 h2 hn
  have ef : z37 t F = F := by unfold z37; rw [if_neg h1, if_neg h2]
  refine ⟨z, z', [], ?_, ?_, ef.symm ▸ e3.more (by omega), e4, by simp⟩
  ·unfold vw; rw [if_neg h1, if_neg h2, e1]
  ·unfold v8; rw [if_neg h1, if_neg h2, e2]; rfl
theorem z1F {fi : Bool} {ow ow' : Nat → Nat} {ps : List (Nat → Nat)} {sc : Nat → Nat} (ho : B32 ow) (ho' : B32 ow') (hs : B32 sc) : ∀ (q : List Nat) {c : Nat} {F : FL} {s s' : SS} (out : List Nat), Meet ow ow' c F s s' → c + q.length < 9223372036854775807 → Wp fi ps.length q F s.2.2 = true →
  ∃ z pc, wM fi ow ps sc q s out = (0, z, out ++ pc) ∧ pc.length ≤ 48 * q.length ∧ z.2.2 = s.2.2 + (q.filter (fun t => decide (t = 7))).length ∧ ∀ rest, ∃ z', wN (!fi) ow' ps q s' (pc ++ rest) = (0, z', rest) ∧ Meet ow ow' (c + q.length) (z3v q F) z z'
 | [], c, F, s, s', out, h, _, _ => ⟨s, [], by rw [List.append_nil]; rfl, by simp, by simp, fun rest => ⟨s', rfl, h⟩⟩
 | t :: q, c, F, s, s', out, h, hc, hg => by
  rw [Wp, Bool.and_eq_true] at hg
  rw [List.length_cons] at hc
  obtain ⟨z0, z0', p0, a1, _, a3, a4, a5⟩ := z5r (fi := fi) (ps := ps) (sc := sc) (t := t) h ho ho' hs (by omega) hg.1 []
  have hg2 : Wp fi ps.length q (z37 t F) z0.2.2 = true := by rw [a4]; exact hg.2
  obtain ⟨z, pc, b1, b2, b3, _⟩ := z1F ho ho' hs q (out ++ p0) a3 (by omega) hg2
  refine ⟨z, p0 ++ pc, ?_, ?_, ?_, fun rest => ?_⟩
  ·rw [wM, a1]
   dsimp only
   rw [if_pos rfl, b1, List.append_assoc]
  ·rw [List.length_append, List.length_cons]; omega
  ·rw [b3, a4, List.filter_cons]
   by_cases h7 : t = 7
   ·rw [if_pos h7, if_pos (by simp [h7]), List.length_cons]; omega
   ·rw [if_neg h7, if_neg (by simp [h7])]
  ·obtain ⟨z1, z1', p1, c1, c2, c3, c4, _⟩ := z5r (fi := fi) (ps := ps) (sc := sc) (t := t) h ho ho' hs (by omega) hg.1 (pc ++ rest)
   have e := a1.symm.trans c1
   obtain ⟨rfl, rfl⟩ : z0 = z1 ∧ p0 = p1 := ⟨congrArg (fun w => w.2.1) e, congrArg (fun w => w.2.2) e⟩
   obtain ⟨z2, pc2, d1, _, _, d4⟩ := z1F ho ho' hs q (out ++ p0) c3 (by omega) hg2
   have e2 := b1.symm.trans d1
   have e3 : (out ++ p0) ++ pc = (out ++ p0) ++ pc2 := congrArg (fun w => w.2.2) e2
   have e4 : z = z2 := congrArg (fun w => w.2.1) e2
   obtain rfl := List.append_cancel_left e3
   obtain rfl := e4
   obtain ⟨z', f1, f2⟩ := d4 rest
   refine ⟨z', ?_, ?_⟩
   ·rw [wN, List.append_assoc, c2]
    dsimp only
    rw [if_pos rfl]
    exact f1
   ·rw [List.length_cons, z3v, show c + (q.length + 1) = c + 1 + q.length by omega]; exact f2
theorem z2q {fi : Bool} {ow ow' : Nat → Nat} {ps : List (Nat → Nat)} {sc : Nat → Nat} (ho : B32 ow) (ho' : B32 ow') (hs : B32 sc) (q : List Nat) {c : Nat} {F : FL} {s s' : SS} {tx : List Nat} (h : Meet ow ow' c F s s') (hc : c + q.length < 9223372036854775807) (hg : Wp fi ps.length q F s.2.2 = true) (ht : tx.length ≤ 800) (hb : ∀ x ∈ tx, x < 256) :
  ∃ z z' m, wJ fi ow ps sc q s tx = (0, z, m) ∧ wR (!fi) ow' ps q s' m = (0, z', tx) ∧ Meet ow ow' (c + q.length + 1) (z3v q F) z z' ∧ z.2.2 = s.2.2 + (q.filter (fun t => decide (t = 7))).length ∧ m.length ≤ 48 * q.length + tx.length + 16 := by
 obtain ⟨z, pc, a1, a2, a3, a4⟩ := z1F (fi := fi) (sc := sc) ho ho' hs q [] h hc hg
 obtain ⟨z1, _, b2⟩ := a4 []
 obtain ⟨y2, cs, e1, e2, e3, e4, e5, _, _⟩ := z3d b2.ok b2.n (by omega) ht hb
 obtain ⟨z', c1, c2⟩ := a4 cs
 rw [List.nil_append] at a1
 refine ⟨(y2, z.2), (y2, z'.2), pc ++ cs, ?_, ?_, ⟨rfl, c2.u, e4, e5, c2.f1, c2.f2, c2.g1, c2.g2, c2.k1, c2.k2, c2.fk, c2.gk, c2.lk, c2.jk⟩, a3, ?_⟩
 ·unfold wJ
  rw [a1]
  dsimp only
  rw [if_pos rfl, e1]
 ·unfold wR
  rw [c1]
  dsimp only
  rw [if_pos rfl, ← c2.y, e2]
 rw [List.length_append, e3]
 split <;> omega
theorem z5k (b : List Nat) (l : Bool) (qs p0 p1 : List Int) (ts : List (List Int)) (ps : List (Nat → Nat)) (fi : Bool) (tn : Int) (dd : Bool) (y : SY) (ow : Nat → Nat) (r : RS) (us : Int) (m : Mem) : ∃ v nw, (∃ v', v = Value.tuple #[v', ii 0] ∧ ZX b l qs p0 p1 ts ps fi tn dd y ow r us v' nw) ∧ FreshM m nw := by
 obtain ⟨v, nw, h, f⟩ := Z0 b l qs p0 p1 ts ps fi tn dd y ow r us m
 exact ⟨_, nw, ⟨v, rfl, h⟩, f⟩
theorem z6Q {fi : Bool} {ow : Nat → Nat} {ps : List (Nat → Nat)} {sc : Nat → Nat} (hs : B32 sc) : ∀ (q : List Nat) (s : SS) (out : List Nat), okS s → (∀ x ∈ out, x < 256) → okS (wM fi ow ps sc q s out).2.1 ∧ ∀ x ∈ (wM fi ow ps sc q s out).2.2, x < 256
 | [], _, _, h, ho => ⟨h, ho⟩
 | t :: q, s, out, h, ho => by
  rw [wM]
  split
  ·exact z6Q hs q _ _ (z0s h hs) fun x hx => by
    rcases List.mem_append.1 hx with hx | hx
    ·exact ho x hx
    ·exact zjH x hx
  ·exact ⟨z0s h hs, fun x hx => by cases hx⟩
theorem z4U {fi : Bool} {ow : Nat → Nat} {ps : List (Nat → Nat)} : ∀ (q : List Nat) (s : SS) (b : List Nat), okS s → (∀ x ∈ b, x < 256) → okS (wN fi ow ps q s b).2.1 ∧ ∀ x ∈ (wN fi ow ps q s b).2.2, x < 256
 | [], _, _, h, hb => ⟨h, hb⟩
 | t :: q, s, b, h, hb => by
  rw [wN]
  split
  ·exact z4U q _ _ (z1C h hb) (z8W hb)
  ·exact ⟨z1C h hb, fun x hx => by cases hx⟩
theorem z2Y {fi : Bool} {ow : Nat → Nat} {ps : List (Nat → Nat)} {sc : Nat → Nat} (hs : B32 sc) (q : List Nat) (s : SS) {tx : List Nat} (ht : ∀ x ∈ tx, x < 256) (h : okS s) : okS (wJ fi ow ps sc q s tx).2.1 ∧ ∀ x ∈ (wJ fi ow ps sc q s tx).2.2, x < 256 := by
 have h1 := z6Q (fi := fi) (ow := ow) (ps := ps) hs q s [] h (fun x hx => by cases hx)
 unfold wJ
 split
 ·exact ⟨⟨z67 h1.1.1 _, h1.1.2⟩, fun x hx => by
   rcases List.mem_append.1 hx with hx | hx
   ·exact h1.2 x hx
   ·exact z6h ht x hx⟩
 ·exact ⟨h1.1, fun x hx => by cases hx⟩
theorem z2G {fi : Bool} {ow : Nat → Nat} {ps : List (Nat → Nat)} (q : List Nat) (s : SS) {b : List Nat} (hb : ∀ x ∈ b, x < 256) (h : okS s) : okS (wR fi ow ps q s b).2.1 := by
 have h1 := z4U (fi := fi) (ow := ow) (ps := ps) q s b h hb
 unfold wR
 split
 ·exact ⟨z20 h1.1.1 _, h1.1.2⟩
 ·exact h1.1
theorem wD : B32 (fun _ => 0) := fun _ _ => z39
def sdF (a c : Nat → Nat) : Nat → Nat := fun j => if j < 32 then a j else c (j - 32)
def sdG (a c b d : Nat → Nat) : Nat → Nat := fun j => if j < 64 then sdF a c j else sdF b d (j - 64)
theorem zoE {a c b d : Nat → Nat} {j : Nat} (h : j < 32) : sdG a c b d (0 + j) = a j := by
 unfold sdG sdF; rw [if_pos (by omega), if_pos (by omega), Nat.zero_add]
theorem zoF {a c b d : Nat → Nat} {j : Nat} (h : j < 32) : sdG a c b d (64 + j) = b j := by
 unfold sdG sdF; rw [if_neg (by omega), if_pos (by omega), show 64 + j - 64 = j by omega]
theorem zky {a c : Nat → Nat} {j : Nat} (h : j < 32) : sdF a c (0 + j) = a j := by
 unfold sdF; rw [if_pos (by omega), Nat.zero_add]
def zkr (base : List Nat) (late : Bool) (qs : List Int) (q0 q1 : List Nat) (us : List (List Nat)) (ps : List (Nat → Nat)) (a b : Nat → Nat) (zx zy : SY × RS) (v : Value) (B : Mem) : Prop :=
 ∃ v' w', v = .tuple #[v', w', .bool true] ∧ ZX base late qs (ci q0) (ci q1) (us.map ci) ps true 0 false zx.1 a zx.2 0 v' B ∧ ZX base late qs (ci q0) (ci q1) (us.map ci) ps false 0 false zy.1 b zy.2 0 w' B
theorem zgE (base : List Nat) (late : Bool) (qs : List Int) (q0 q1 : List Nat) (us : List (List Nat)) (ps : List (Nat → Nat)) (a b : Nat → Nat) (zx zy : SY × RS) (m : Mem) : ∃ v nw, zkr base late qs q0 q1 us ps a b zx zy v nw ∧ FreshM m nw := by
 obtain ⟨v, n1, h1, f1⟩ := Z0 base late qs (ci q0) (ci q1) (us.map ci) ps true 0 false zx.1 a zx.2 0 m
 obtain ⟨w, n2, h2, f2⟩ := Z0 base late qs (ci q0) (ci q1) (us.map ci) ps false 0 false zy.1 b zy.2 0 (m ++ n1)
 exact ⟨_, n1 ++ n2, ⟨v, w, rfl, wV h1 fun x hx => List.mem_append_left _ hx, wV h2 fun x hx => List.mem_append_right _ hx⟩, yF f1 f2⟩
theorem zmt {q0 q1 : List Nat} : ∀ a : Nat, a < 2 → ∀ x ∈ qq q0 q1 a, x = 2 → (true == decide ((a : Int) = 0)) = false → decide (2 ∈ q1) = true := fun a ha x hx h2 hf => by
 have h0 : a = 1 := by
  rcases (by omega : a = 0 ∨ a = 1) with rfl | rfl
  ·exact absurd hf (by decide)
  ·rfl
 subst h0; subst h2
 exact decide_eq_true hx
theorem zmA {q0 q1 : List Nat} : ∀ a : Nat, a < 2 → ∀ x ∈ qq q0 q1 a, x = 2 → (false == decide ((a : Int) = 0)) = false → decide (2 ∈ q0) = true := fun a ha x hx h2 hf => by
 have h0 : a = 0 := by
  rcases (by omega : a = 0 ∨ a = 1) with rfl | rfl
  ·rfl
  ·exact absurd hf (by decide)
 subst h0; subst h2
 exact decide_eq_true hx
theorem zeu {B : Mem} {v : Value} {q : List Int} {vs : List Value} {ts : List (List Int)} (h : Shows B 1 v q.length (q.map iv)) (hL : zF B vs ts) : zF B (v :: vs) (q :: ts) :=
 ⟨by simp [hL.1], fun i hi => match i with
  | 0 => h
  | i + 1 => hL.2 i (by simpa using hi)⟩
theorem z78 {mine np : Bool} {ow ea : Nat → Nat} (he : B32 ea) : ∀ (q : List Nat) (s : SY × RS), okY s.1 ∧ okR s.2 → okY (ZG mine ow ea np q s).1 ∧ okR (ZG mine ow ea np q s).2
 | [], _, h => h
 | _ :: q, _, h => z78 he q _ (okA h he)
theorem zdR {fi np : Bool} {ow ea : Nat → Nat} (he : B32 ea) {q0 q1 : List Nat} {s z : SY × RS} (h : okY s.1 ∧ okR s.2) (hz : wW fi ow ea np q0 q1 s = z) : okY z.1 ∧ okR z.2 := by
 rw [← hz]; exact z78 he q1 _ (z78 he q0 _ h)
theorem zgB {q : List Nat} {i : Nat} (hi : i < q.length) (h : ((q.getD i 0 : Nat) : Int) = 2) : 2 ∈ q := by
 have e : q.getD i 0 = 2 := by omega
 rw [List.getD_eq_getElem?_getD, List.getElem?_eq_getElem hi, Option.getD_some] at e
 rw [← e]; exact List.getElem_mem hi
theorem vr {q : List Nat} (h : ∀ j, j < q.length → q.getD j 0 ≠ 2) : ¬ 2 ∈ q := fun h2 => by
 obtain ⟨j, hj, e⟩ := List.getElem_of_mem h2
 exact h j hj (by rw [List.getD_eq_getElem?_getD, List.getElem?_eq_getElem hj]; exact e)
theorem XY {mine np : Bool} {ow ea K : Nat → Nat} {r : RS} (hK : (if mine then zN ow else r.2.2.1) = K) : ∀ (q : List Nat) (y : SY), (∀ x ∈ q, x = 2) → ZG mine ow ea np q (y, r) = (q.foldl (fun y _ => y6 y (ky K)) y, r)
 | [], _, _ => rfl
 | t :: q, y, h => by
  have e : VQ mine ow ea np t (y, r) = (y6 y (ky K), r) := by
   rw [h t List.mem_cons_self, ← hK]
   cases mine <;> rfl
  show ZG mine ow ea np q (VQ mine ow ea np t (y, r)) = _
  rw [e]
  exact XY hK q _ fun x hx => h x (List.mem_cons_of_mem _ hx)
theorem z4z {K : Nat → Nat} : ∀ (q : List Nat) (y : SY), okC y.1 y.2.1 y.2.2.1 = true → y.2.2.1 = 0 → okC (q.foldl (fun y _ => y6 y (ky K)) y).1 (q.foldl (fun y _ => y6 y (ky K)) y).2.1 (q.foldl (fun y _ => y6 y (ky K)) y).2.2.1 = true ∧ (q.foldl (fun y _ => y6 y (ky K)) y).2.2.1 = 0
 | [], _, h, h0 => ⟨h, h0⟩
 | _ :: q, y, h, h0 => z4z q (y6 y (ky K)) h h0
def RG (q : List Nat) (k : Nat → Nat) : RS := ((fun _ => 0), false, (if 2 ∈ q then zN k else fun _ => 0), decide (2 ∈ q), (fun _ => 0), false)
theorem z3t {q : List Nat} (h : ∀ x ∈ q, x = 2) {K K' : Nat → Nat} {y : SY} (hk : 2 ∈ q → K = K') : q.foldl (fun y _ => y6 y (ky K)) y = q.foldl (fun y _ => y6 y (ky K')) y := by
 cases q with
 | nil => rw [List.foldl_nil, List.foldl_nil]
 | cons t q =>
  have : K = K' := hk (List.mem_cons.2 (.inl (h t List.mem_cons_self).symm))
  rw [this]
theorem z7s {a b z : Nat → Nat} {np : Bool} {y0 : SY} {q0 q1 : List Nat} (h0 : ∀ x ∈ q0, x = 2) (h1 : ∀ x ∈ q1, x = 2) (hk : okC y0.1 y0.2.1 y0.2.2.1 = true) (hn : y0.2.2.1 = 0) :
  ∃ y, wW true a z np q0 q1 (y0, RG q1 b) = (y, RG q1 b) ∧ wW false b z np q0 q1 (y0, RG q0 a) = (y, RG q0 a) ∧ Meet a b 0 (false, false, decide (2 ∈ q1), decide (2 ∈ q0)) (y, RG q1 b, 0) (y, RG q0 a, 0) := by
 have e1 : wW true a z np q0 q1 (y0, RG q1 b) = (q1.foldl (fun y _ => y6 y (ky (RG q1 b).2.2.1)) (q0.foldl (fun y _ => y6 y (ky (zN a))) y0), RG q1 b) := by
  unfold wW
  rw [XY (K := zN a) rfl q0 y0 h0]
  exact XY rfl q1 _ h1
 have e2 : wW false b z np q0 q1 (y0, RG q0 a) = (q1.foldl (fun y _ => y6 y (ky (zN b))) (q0.foldl (fun y _ => y6 y (ky (RG q0 a).2.2.1)) y0), RG q0 a) := by
  unfold wW
  rw [XY (mine := false) (K := (RG q0 a).2.2.1) rfl q0 y0 h0]
  exact XY rfl q1 _ h1
 have f0 : q0.foldl (fun y _ => y6 y (ky (RG q0 a).2.2.1)) y0 = q0.foldl (fun y _ => y6 y (ky (zN a))) y0 := z3t h0 fun h => if_pos h
 have f1 : ∀ w : SY, q1.foldl (fun y _ => y6 y (ky (RG q1 b).2.2.1)) w = q1.foldl (fun y _ => y6 y (ky (zN b))) w := fun w => z3t h1 fun h => if_pos h
 rw [f1] at e1
 rw [f0] at e2
 have g0 := z4z (K := zN a) q0 y0 hk hn
 have g1 := z4z (K := zN b) q1 _ g0.1 g0.2
 refine ⟨_, e1, e2, rfl, rfl, g1.1, Nat.le_of_eq g1.2, rfl, rfl, rfl, rfl, rfl, rfl, (fun h => by cases h), (fun h => by cases h), fun h => ?_, fun h => ?_⟩
 ·show ky (if 2 ∈ q1 then zN b else fun _ => 0) = _
  rw [if_pos (of_decide_eq_true h)]
 ·show ky (if 2 ∈ q0 then zN a else fun _ => 0) = _
  rw [if_pos (of_decide_eq_true h)]
def VF (ev : Bool) (q : List Nat) (F : FL) : FL := if ev then z3v q F else z4W (z3v q (z4W F))
def zmL (q : List Nat) : Nat := (q.filter (fun t => decide (t = 7))).length
def W6 (np : Nat) : Bool → List (List Nat) → FL → Nat → Bool
 | _, [], _, _ => true
 | ev, q :: us, F, u => (if ev then Wp true np q F u else Wp false np q (z4W F) u) && W6 np (!ev) us (VF ev q F) (u + zmL q)
def xY : Bool → List (List Nat) → FL → FL
 | _, [], F => F
 | ev, q :: us, F => xY (!ev) us (VF ev q F)
theorem zfR {ev : Bool} {a b c d : Nat → Nat} {ps : List (Nat → Nat)} (ha : B32 a) (hb : B32 b) (hc : B32 c) (hd : B32 d) {q : List Nat} {n : Nat} {F : FL} {sx sy : SS} {tx : List Nat} (h : Meet a b n F sx sy) (hn : n + q.length < 9223372036854775807) (hg : (if ev then Wp true ps.length q F sx.2.2 else Wp false ps.length q (z4W F) sx.2.2) = true) (ht : tx.length ≤ 800) (h8 : ∀ x ∈ tx, x < 256) :
  ∃ zx zy m, (if ev then wJ true a ps c q sx tx = (0, zx, m) ∧ wR false b ps q sy m = (0, zy, tx) else wJ false b ps d q sy tx = (0, zy, m) ∧ wR true a ps q sx m = (0, zx, tx)) ∧ Meet a b (n + q.length + 1) (VF ev q F) zx zy ∧ zx.2.2 = sx.2.2 + zmL q ∧ m.length ≤ 48 * q.length + tx.length + 16 := by
 cases ev with
 | true =>
  obtain ⟨z, z', m, w, r, M, u, l⟩ := z2q (fi := true) (ps := ps) (sc := c) ha hb hc q h hn hg ht h8
  exact ⟨z, z', m, ⟨w, r⟩, M, u, l⟩
 | false =>
  obtain ⟨z, z', m, w, r, M, u, l⟩ := z2q (fi := false) (ps := ps) (sc := d) hb ha hd q h.swap hn (by rw [← h.u]; exact hg) ht h8
  exact ⟨z', z, m, ⟨w, r⟩, M.swap, by rw [← M.u, u, ← h.u]; rfl, l⟩
structure MI (a b : Nat → Nat) (ps : List (Nat → Nat)) (us : List (List Nat)) (LF : FL) (i : Nat) (F : FL) (sx sy : SS) : Prop where
 m : Meet a b (i * 8) F sx sy
 g : W6 ps.length (decide (i % 2 = 0)) (us.drop i) F sx.2.2 = true
 l : xY (decide (i % 2 = 0)) (us.drop i) F = LF
 x : okS sx
 y : okS sy
theorem z5C (i : Nat) : decide ((i + 1) % 2 = 0) = !decide (i % 2 = 0) := by
 rcases Nat.mod_two_eq_zero_or_one i with h | h
 ·rw [decide_eq_true h, show decide ((i + 1) % 2 = 0) = false from decide_eq_false (by omega)]; rfl
 ·rw [show decide (i % 2 = 0) = false from decide_eq_false (by omega), decide_eq_true (by omega)]; rfl
theorem zhO {us : List (List Nat)} {i : Nat} (hi : i < us.length) : us.drop i = us.getD i [] :: us.drop (i + 1) := by
 rw [List.drop_eq_getElem_cons hi, List.getD_eq_getElem?_getD, List.getElem?_eq_getElem hi]; rfl
structure MT (a b c d : Nat → Nat) (ps : List (Nat → Nat)) (us : List (List Nat)) (LF : FL) (i : Nat) (F : FL) (sx sy : SS) (tx : List Nat) (zx zy : SS) (m : List Nat) : Prop where
 e : i % 2 = 0 → wJ true a ps c (us.getD i []) sx tx = (0, zx, m) ∧ wR false b ps (us.getD i []) sy m = (0, zy, tx)
 o : i % 2 = 1 → wJ false b ps d (us.getD i []) sy tx = (0, zy, m) ∧ wR true a ps (us.getD i []) sx m = (0, zx, tx)
 n : MI a b ps us LF (i + 1) (VF (decide (i % 2 = 0)) (us.getD i []) F) zx zy
 l : m.length ≤ 800
 h : ∀ x ∈ m, x < 256
theorem zhI {a b c d : Nat → Nat} {ps : List (Nat → Nat)} {us : List (List Nat)} {LF F : FL} {i : Nat} {sx sy : SS} {tx : List Nat} (h : MI a b ps us LF i F sx sy) (ha : B32 a) (hb : B32 b) (hc : B32 c) (hd : B32 d) (hi : i < us.length) (hq6 : (us.getD i []).length ≤ 6) (hi9 : i ≤ 1000) (ht : tx.length ≤ 400) (h8 : ∀ x ∈ tx, x < 256) :
  ∃ zx zy m, MT a b c d ps us LF i F sx sy tx zx zy m := by
 have hg := h.g
 have hl := h.l
 rw [zhO hi] at hg hl
 have hg1 := (Bool.and_eq_true _ _ ▸ hg : _ ∧ _)
 obtain ⟨zx, zy, m, hw, hM, hu, hm⟩ := zfR (ev := decide (i % 2 = 0)) (c := c) (d := d) ha hb hc hd h.m (by omega) hg1.1 (show tx.length ≤ 800 by omega) h8
 have hn : ∀ {zx zy}, okS zx → okS zy → Meet a b (i * 8 + (us.getD i []).length + 1) (VF (decide (i % 2 = 0)) (us.getD i []) F) zx zy → zx.2.2 = sx.2.2 + zmL (us.getD i []) → MI a b ps us LF (i + 1) (VF (decide (i % 2 = 0)) (us.getD i []) F) zx zy := fun kx ky hM hu =>
  ⟨hM.more (by omega), by rw [z5C, hu]; exact hg1.2, by rw [z5C]; exact hl, kx, ky⟩
 rcases Nat.mod_two_eq_zero_or_one i with e | e
 ·rw [if_pos (decide_eq_true e)] at hw
  have k1 := z2Y (fi := true) (ow := a) (ps := ps) hc (us.getD i []) sx h8 h.x
  rw [hw.1] at k1
  have k2 := z2G (fi := false) (ow := b) (ps := ps) (us.getD i []) sy (b := m) k1.2 h.y
  rw [hw.2] at k2
  exact ⟨zx, zy, m, fun _ => hw, fun o => by omega, hn k1.1 k2 hM hu, by omega, k1.2⟩
 ·rw [if_neg (by rw [decide_eq_false (by omega)]; decide)] at hw
  have k1 := z2Y (fi := false) (ow := b) (ps := ps) hd (us.getD i []) sy h8 h.y
  rw [hw.1] at k1
  have k2 := z2G (fi := true) (ow := a) (ps := ps) (us.getD i []) sx (b := m) k1.2 h.x
  rw [hw.2] at k2
  exact ⟨zx, zy, m, fun o => by omega, fun _ => hw, hn k2 k1.1 hM hu, by omega, k1.2⟩
theorem MI.last {a b : Nat → Nat} {ps : List (Nat → Nat)} {us : List (List Nat)} {LF F : FL} {i : Nat} {sx sy : SS} (h : MI a b ps us LF i F sx sy) (hi : i = us.length) : Meet a b (i * 8) LF sx sy := by
 have hl := h.l
 rw [hi, List.drop_length] at hl
 have : F = LF := hl
 rw [← this]; exact h.m
theorem Ws {i n u pf : Nat} {f0 : Bool} (hf : f0 = decide (i % 2 = 0)) (hi : i < n) (hp : pf = 0) : z7B false ((i : Nat) : Int) n ((u : Nat) : Int) f0 false pf = true := by
 unfold z7B
 rw [if_neg (by rintro (h | h | h | h) <;> first | (cases h; done) | omega), hp, hf]
 rcases Nat.mod_two_eq_zero_or_one i with e | e
 ·simp [e]
 ·simp [e]
theorem zf2 (nm pl : List Nat) : okC (y6 (XU nm) pl).1 (y6 (XU nm) pl).2.1 (y6 (XU nm) pl).2.2.1 = true := by
 show (false || (decide ((0 : Nat) = 0) && y4 32 (fun _ => 0) (fun _ => 0))) = true
 decide
theorem zeb {a b : Nat → Nat} {nm pl : List Nat} {ps : List (Nat → Nat)} {us : List (List Nat)} {LF : FL} {q0 q1 : List Nat} (hnm : ∀ x ∈ nm, x < 256) (h0 : ∀ x ∈ q0, x = 2) (h1 : ∀ x ∈ q1, x = 2)
  (hg : W6 ps.length true us (false, false, decide (2 ∈ q1), decide (2 ∈ q0)) 0 = true) (hl : xY true us (false, false, decide (2 ∈ q1), decide (2 ∈ q0)) = LF) :
  ∃ y, wW true a (fun _ => 0) (npk ps) q0 q1 (y6 (XU nm) pl, RG q1 b) = (y, RG q1 b) ∧ wW false b (fun _ => 0) (npk ps) q0 q1 (y6 (XU nm) pl, RG q0 a) = (y, RG q0 a) ∧ MI a b ps us LF 0 (false, false, decide (2 ∈ q1), decide (2 ∈ q0)) (y, RG q1 b, 0) (y, RG q0 a, 0) := by
 obtain ⟨y, e1, e2, hM⟩ := z7s (a := a) (b := b) (z := fun _ => 0) (np := npk ps) (y0 := y6 (XU nm) pl) h0 h1 (zf2 nm pl) rfl
 have o1 : okR (RG q1 b) := ⟨wD, by show B32 (if 2 ∈ q1 then zN b else fun _ => 0); split; exact wo b; exact wD, wD⟩
 have o2 : okR (RG q0 a) := ⟨wD, by show B32 (if 2 ∈ q0 then zN a else fun _ => 0); split; exact wo a; exact wD, wD⟩
 have k1 := zdR wD ⟨wI (zah hnm) pl, o1⟩ e1
 exact ⟨y, e1, e2, hM, hg, hl, ⟨k1.1, o1⟩, ⟨k1.1, o2⟩⟩
def CpW (qs p0 p1 : List Int) (ts : List (List Int)) (ps : List (Nat → Nat)) (vp v0 v1 vt vk : Value) (tvs : List Value) (B : Mem) : Prop :=
 Shows B 1 vp qs.length (qs.map iv) ∧ Shows B 1 vt tvs.length tvs ∧ zF B (v0 :: v1 :: tvs) (p0 :: p1 :: ts) ∧ Shows B 32 vk ps.length (psC ps) ∧ xn vp v0 v1 vt vk
theorem CpW.mono {qs p0 p1 : List Int} {ts : List (List Int)} {ps : List (Nat → Nat)} {vp v0 v1 vt vk : Value} {tvs : List Value} {B B' : Mem} (h : CpW qs p0 p1 ts ps vp v0 v1 vt vk tvs B) (hs : ∀ x ∈ B, x ∈ B') : CpW qs p0 p1 ts ps vp v0 v1 vt vk tvs B' :=
 ⟨h.1.mono hs, h.2.1.mono hs, yR h.2.2.1 hs, h.2.2.2.1.mono hs, h.2.2.2.2⟩
theorem CpW.len {qs p0 p1 : List Int} {ts : List (List Int)} {ps : List (Nat → Nat)} {vp v0 v1 vt vk : Value} {tvs : List Value} {B : Mem} (h : CpW qs p0 p1 ts ps vp v0 v1 vt vk tvs B) : tvs.length = ts.length := by have := h.2.2.1.1; simpa using this
theorem vg {n i m : Nat} (hn : n = m) (hi : i = m) : z0H false n ((i : Nat) : Int) = true := by
 unfold z0H
 rw [decide_eq_true (by omega)]; rfl
theorem VY (z : Int) {n : Nat} (hn : n ≤ 4) : okP (psN z n) := ⟨fun p hp => by
 obtain ⟨i, _, rfl⟩ := List.mem_map.1 hp
 exact ziD _, by rw [vj]; omega⟩
theorem ziw {us : List (List Nat)} {i : Nat} (hi : i < us.length) : us.getD i [] ∈ us := by
 rw [List.getD_eq_getElem?_getD, List.getElem?_eq_getElem hi]; exact List.getElem_mem hi
theorem z9i {us : List (List Nat)} {i : Nat} (hi : i < us.length) : (us.map ci).getD i [] = ci (us.getD i []) := by
 rw [List.getD_eq_getElem?_getD, List.getD_eq_getElem?_getD, List.getElem?_map, List.getElem?_eq_getElem hi]; rfl
theorem z5W {B : Mem} {v : Value} {ds : List Nat} (h : Shows B 1 v ds.length ((ci ds).map iv)) : Shows B 1 v (ci ds).length ((ci ds).map iv) := by
 rw [show (ci ds).length = ds.length by simp [ci]]; exact h
theorem yS {b : List Nat} {l : Bool} {vp v0 v1 vt : Value} {fi : Bool} {tn : Int} {dd : Bool} {y : SY} {ow : Nat → Nat} {r : RS} {vk : Value} {us : Int} (h : xn vp v0 v1 vt vk) : ∀ v ∈ shC b l vp v0 v1 vt fi tn dd y ow r vk us, v.oneCell' = true := za ⟨fun _ => rfl, fun _ => rfl, fun _ => h.1, fun _ => h.2.1, fun _ => h.2.2.1, fun _ => h.2.2.2.1, fun _ => rfl, fun _ => rfl, fun _ => rfl, fun _ => rfl, fun _ => rfl, fun _ => rfl, fun _ => rfl, fun _ => rfl, fun _ => rfl, fun _ => rfl, fun _ => rfl, fun _ => rfl, fun _ => rfl, fun _ => rfl, fun _ => rfl, fun _ => h.2.2.2.2, fun _ => rfl, trivial⟩
def zma : Go.Shelf.Ren := ⟨fun n => if n = 156 then 127 else if n = 165 then 174 else if n = 166 then 175 else if n = 169 then 176 else if n = 240 then 224 else if n = 241 then 225 else if n = 276 then 255 else 256, fun n => if n = 0 then 0 else if n = 3 then 3 else if n = 4 then 4 else if n = 5 then 5 else if n = 9 then 9 else if n = 20 then 20 else if n = 31 then 141 else if n = 37 then 22 else if n = 70 then 225 else if n = 72 then 227 else if n = 75 then 230 else if n = 76 then 231 else if n = 80 then 233 else if n = 127 then 266 else 304, fun n => n⟩
theorem z4J : Lays.n156 Tryz.prog zma := by
 constructor <;> first | kernel_rfl | (intro w; kernel_rfl)
theorem z5u : Builder.Extra Tryz.prog zma := by
 refine ⟨⟨?_, ?_⟩, ?_, ?_, ?_, ?_, ?_, ?_, ?_, ?_⟩ <;> first | kernel_rfl | (intro w; kernel_rfl) | decide
theorem z3z (l : List Nat) : (y5 l).data.toList = l.map UInt8.ofNat := by simp [y5]
theorem z0v (ws : List (List Nat)) : Lib.join ((ws.map y5).map (·.data.toList)) (y5 [43]).data.toList = (Yo 43 ws).map UInt8.ofNat := by
 have h1 : (ws.map y5).map (·.data.toList) = ws.map fun w => w.map UInt8.ofNat := by
  rw [List.map_map]; exact List.map_congr_left fun w _ => z3z w
 rw [h1, z3z, ← zaP]; rfl
theorem zhP {G : Mem} (v : Value) (ws : List (List Nat)) (hv : Shows G 1 v ws.length (ws.map sv)) (hn : ws.length ≤ 1000) (hl : (Yo 43 ws).length ≤ 1000000) : Fn Tryz.prog G 127 #[v, sv [43]] (sv (Yo 43 ws)) := fun w hG => by
 have hf : zma.f 156 = 127 := rfl
 have hlen : (Lib.join ((ws.map y5).map (·.data.toList)) (y5 [43]).data.toList).length ≤ 140737488355328 := by rw [z0v, List.length_map]; omega
 have hres : (Value.string ⟨(Lib.join ((ws.map y5).map (·.data.toList)) (y5 [43]).data.toList).toArray⟩) = sv (Yo 43 ws) := by rw [z0v]; rfl
 rcases hv with ⟨h0, _, oa, c, rfl, _⟩ | ⟨b, o, c, cs, t, rfl, hnc, hm, _, ho, hc⟩
 ·obtain rfl : ws = [] := List.length_eq_zero_iff.1 h0
  exact (Any.strings_Join_none z4J z5u oa c (y5 [43]) w).mono fun e w' ⟨he, hw⟩ => ⟨he, hw ▸ Below.refl _ _⟩
 ·have hr := hG _ hm
  have := Any.strings_Join z4J z5u b o c (ws.map y5) (y5 [43]) w (fun j x hj => by
   have h1 : (ws.map sv)[j]? = some (.string x) := by
    rw [List.getElem?_map] at hj ⊢
    cases hw : ws[j]? with
    | none => rw [hw] at hj; cases hj
    | some q => rw [hw] at hj; injection hj with hj; subst hj; rfl
   have h2 := hc j _ h1
   have h3 : o + j < cs.size := (Array.getElem?_eq_some_iff.1 h2).1
   exact (hr.2 (o + j) h3).trans h2) hr.1 (by rw [List.length_map]; omega) (by rw [List.length_map]; exact hnc) hlen
  rw [List.length_map, hres] at this
  exact this
end Go.Proofs.YtacflmjoigffpaaGreatDoor
namespace Go.Proofs.YtacflmjoigffpaaGreatDoor
open Go.ChangeShapes Go.WideShapes Go.ChangeAt Go.RowKit
section
variable {P : Program} {W : World}
def RdT (P : Program) (W : World) (t : TypeId) (cs : List Value) (d : DataW Unit) : Prop := ∃ fuel p, DataW.trod (fun _ => ()) P W 0 (fun _ => true) false fuel t cs = some (d, p)
def zb7 (P : Program) (W : World) (n : String) (d : DataW Unit) : Prop := ∃ g t cs, P.globalNamed n = some g ∧ (P.globals[g]?).map (·.type) = some t ∧ W.var? P n = some cs ∧ RdT P W t cs.toList d
theorem z3u : ∀ {l : List (String × DataW Unit)} {ps : List MemPlace}, DataW.LaidVars P W l ps → ∀ x ∈ l, zb7 P W x.1 x.2
 | [], _, _, x, hx => absurd hx List.not_mem_nil
 | (n, d) :: r, ps, h, x, hx => by
  obtain ⟨g, t, cs, fuel, p, q, h1, h2, h3, h4, h5, _⟩ := h
  rcases List.mem_cons.1 hx with rfl | hx
  ·exact ⟨g, t, cs, h1, h2, h3, fuel, p, h4⟩
  ·exact z3u h5 x hx
theorem zcM {l : List (String × DataW Unit)} (hp : (l.all fun x => x.2.handleName?.isNone) = true) (h : laidMetH P l W) : ∀ x ∈ l, zb7 P W x.1 x.2 := by
 rw [MakeChecks.laidMetH_plain _ _ _ hp] at h
 obtain ⟨ps, h1, _⟩ := h
 exact z3u h1
theorem z9N {cs : List Value} {r : Nat} {v : Value} (h : (cs.drop r).take 1 = [v]) : cs[r]? = some v := by
 have h0 : ((cs.drop r).take 1)[0]? = some v := by rw [h]; rfl
 simpa using h0
theorem zjQ {k : IntKind} {N : Nat} {e T : TypeId} {zs : List Int} {cs : List Value} (hT : P.underlying T = some (.array N e)) (he : P.underlying e = some (.int k)) (hc : P.cellsOf e = 1) (h : RdT P W T cs (.agg (zs.map fun n => .lit (.int k n)))) : ∀ r, r < N → cs[r]? = some (.int k (zs.getD r 0)) := by
 obtain ⟨fuel, p, hd⟩ := h
 obtain ⟨xs, m, _, ex, _, hl, hel⟩ := DataW.trod_array hT hd
 have e3 : (xs.map (·.1)) = zs.map fun n => .lit (.int k n) := (DataW.agg.inj (Prod.mk.inj ex).1).symm
 have hlen : zs.length = N := by
  have := congrArg List.length e3
  simpa [hl] using this.symm
 intro r hr
 have hE := hel r hr
 rw [hc, Nat.mul_one, List.getElem?_eq_getElem (by omega)] at hE
 obtain ⟨z, e1, e2, _⟩ := DataW.trod_int he hE
 have e4 : (xs.map (·.1))[r]? = (zs.map fun n => (DataW.lit (.int k n) : DataW Unit))[r]? := by rw [e3]
 rw [List.getElem?_map, List.getElem?_map, List.getElem?_eq_getElem (by omega : r < xs.length), List.getElem?_eq_getElem (by omega : r < zs.length), e2] at e4
 have hz : z = zs.getD r 0 := by
  simp only [Option.map_some, Option.some.injEq, DataW.lit.injEq, Lit.int.injEq, true_and] at e4
  rw [e4, List.getD, List.getElem?_eq_getElem (by omega : r < zs.length)]; rfl
 rw [← hz]
 exact z9N e1
theorem zjl {k : IntKind} {M N : Nat} {e E T : TypeId} {rs : List (List Int)} {cs : List Value} (hT : P.underlying T = some (.array M E)) (hE : P.underlying E = some (.array N e)) (he : P.underlying e = some (.int k)) (hc : P.cellsOf e = 1) (hcE : P.cellsOf E = N)
  (h : RdT P W T cs (.agg (rs.map fun row => .agg (row.map fun n => .lit (.int k n))))) : ∀ r, r < M * N → cs[r]? = some (.int k ((rs.getD (r / N) []).getD (r % N) 0)) := by
 obtain ⟨fuel, p, hd⟩ := h
 obtain ⟨xs, m, _, ex, _, hl, hel⟩ := DataW.trod_array hT hd
 have e3 : (xs.map (·.1)) = rs.map fun row => .agg (row.map fun n => .lit (.int k n)) := (DataW.agg.inj (Prod.mk.inj ex).1).symm
 have hlen : rs.length = M := by
  have := congrArg List.length e3
  simpa [hl] using this.symm
 intro r hr
 have hN : 0 < N := Nat.pos_of_ne_zero fun h0 => by subst h0; simp at hr
 have hi : r / N < M := Nat.div_lt_of_lt_mul (by rw [Nat.mul_comm]; exact hr)
 have hj : r % N < N := Nat.mod_lt _ hN
 have hR := hel (r / N) hi
 rw [hcE, List.getElem?_eq_getElem (by omega)] at hR
 have e4 : (xs.map (·.1))[r / N]? = (rs.map fun row => (DataW.agg (row.map fun n => .lit (.int k n)) : DataW Unit))[r / N]? := by rw [e3]
 rw [List.getElem?_map, List.getElem?_map, List.getElem?_eq_getElem (by omega : r / N < xs.length), List.getElem?_eq_getElem (by omega : r / N < rs.length)] at e4
 simp only [Option.map_some, Option.some.injEq] at e4
 have hg : rs.getD (r / N) [] = rs[r / N] := by rw [List.getD, List.getElem?_eq_getElem (by omega : r / N < rs.length)]; rfl
 rw [hg]
 have hrow := zjQ (P := P) (W := W) (zs := rs[r / N]) hE he hc ⟨m, (xs[r / N]).2, by rw [hR, ← e4]⟩ (r % N) hj
 rw [← hrow, List.getElem?_take_of_lt hj, List.getElem?_drop]
 congr 1
 have := Nat.div_add_mod r N
 rw [Nat.mul_comm]; omega
theorem ziy {n : String} {g N : Nat} {T : TypeId} {k : IntKind} {f : Nat → Nat} {d : DataW Unit} (hg : P.globalNamed n = some g) (ht : (P.globals[g]?).map (·.type) = some T) (hN : 0 < N) (h : zb7 P W n d) (hr : ∀ cs, RdT P W T cs d → ∀ r, r < N → cs[r]? = some (.int k (f r : Int))) : RIn W ⟨g, arr k N f, T⟩ := by
 obtain ⟨g', t, cs, h1, h2, h3, h4⟩ := h
 obtain rfl := Option.some.inj (hg.symm.trans h1)
 obtain rfl := Option.some.inj (ht.symm.trans h2)
 have key : ∀ r, r < N → W.cell? ⟨g, r, none⟩ = some (.int k (f r : Int)) := fun r hrr => by
  rw [World.var?_cell hg h3 r]
  have := hr cs.toList h4 r hrr
  simpa using this
 refine ⟨?_, fun o ho => ?_⟩
 ·have h0 := key 0 hN
  unfold World.cell? at h0
  cases hh : W.heap[g]? with
  | none => rw [hh] at h0; cases h0
  | some b => exact (Array.getElem?_eq_some_iff.1 hh).1
 ·have ho : o < N := by simpa [zH] using ho
  show W.cell? ⟨g, o, none⟩ = (arr k N f)[o]?
  rw [ye ho]; exact key o ho
theorem z6d : MemR [] W := fun _ h => absurd h List.not_mem_nil
theorem WJ {x : Blk} {m : Mem} (h : RIn W x) (hm : MemR m W) : MemR (x :: m) W := fun y hy => by
 rcases List.mem_cons.1 hy with rfl | hy
 ·exact h
 ·exact hm y hy
theorem zdz {m m' : Mem} (h : MemR m W) (hm : MemR m' W) : MemR (m ++ m') W := fun y hy => by
 rcases List.mem_append.1 hy with hy | hy
 ·exact h y hy
 ·exact hm y hy
end
end Go.Proofs.YtacflmjoigffpaaGreatDoor
namespace Go.Proofs.YtacflmjoigffpaaGreatDoor
open Go Go.ChangeShapes Go.WideShapes Go.ChangeAt Go.RowKit
section
variable {H : Type} {enc : TypeId × Value → H} {P : Program} {t e : TypeId}
end
end Go.Proofs.YtacflmjoigffpaaGreatDoor
namespace Go.Proofs.YtacflmjoigffpaaGreatDoor
open Go Go.ChangeShapes Go.WideShapes Go.ChangeAt Go.RowKit
section
variable {P : Program} {W : World}
theorem zaR {g : Nat} {t : TypeId} {zero : Array Value} (h : W.ShapedOpen P) (hg : g < P.globals.size)
  (h0 : ((begin P (fun _ _ => 0) default).world.heap[g]?).bind Obj.row? = some (zero, t)) (hz : zero.size = 1)
  (hb : P.buildable t = true) (hc : P.cellTypes P.depth t = some [t]) (hu : P.underlying t = some (.int .i64)) : ∃ m : Int, RIn W ⟨g, #[.int .i64 m], t⟩ := by
 obtain ⟨cs, hh, hs, hr⟩ := h.1 g zero t hg h0
 obtain ⟨ts, hts, _, hall⟩ := hr hb
 rw [hc] at hts
 cases hts
 have h1 : 0 < cs.size := by omega
 obtain ⟨u, hu', hok⟩ := hall 0 cs[0] (by simp [h1])
 have : u = t := by simpa using hu'.symm
 subst this
 have hcell : W.cell? ⟨g, 0, none⟩ = some cs[0] := by simp [World.cell?, hh, h1]
 unfold Cell.ok at hok
 rw [hu] at hok
 obtain ⟨m, hm⟩ : ∃ m : Int, cs[0] = .int .i64 m := by
  cases hv : cs[0] <;> rw [hv] at hok <;> simp at hok
  rename_i k z
  exact ⟨z, by rw [hok.1]⟩
 refine ⟨m, (Array.getElem?_eq_some_iff.1 hh).1, fun o ho => ?_⟩
 have : o = 0 := by simpa using ho
 subst this
 rw [hcell, hm]; rfl
theorem zeI {N : Nat} {e T : TypeId} {ws : List (List UInt8)} {cs : List Value} (hT : P.underlying T = some (.array N e)) (he : P.underlying e = some .string) (hc : P.cellsOf e = 1) (h : RdT P W T cs (.agg (ws.map fun s => .lit (.string s)))) : ∀ r, r < N → cs[r]? = some (.string ⟨(ws.getD r []).toArray⟩) := by
 obtain ⟨fuel, p, hd⟩ := h
 obtain ⟨xs, m, _, ex, _, hl, hel⟩ := DataW.trod_array hT hd
 have e3 : (xs.map (·.1)) = ws.map fun s => .lit (.string s) := (DataW.agg.inj (Prod.mk.inj ex).1).symm
 have hlen : ws.length = N := by
  have := congrArg List.length e3
  simpa [hl] using this.symm
 intro r hr
 have hE := hel r hr
 rw [hc, Nat.mul_one, List.getElem?_eq_getElem (by omega)] at hE
 obtain ⟨z, e1, e2, _⟩ := DataW.trod_string he hE
 have e4 : (xs.map (·.1))[r]? = (ws.map fun s => (DataW.lit (.string s) : DataW Unit))[r]? := by rw [e3]
 rw [List.getElem?_map, List.getElem?_map, List.getElem?_eq_getElem (by omega : r < xs.length), List.getElem?_eq_getElem (by omega : r < ws.length), e2] at e4
 have hz : z.data.toList = ws.getD r [] := by
  simp only [Option.map_some, Option.some.injEq, DataW.lit.injEq, Lit.string.injEq] at e4
  rw [e4, List.getD, List.getElem?_eq_getElem (by omega : r < ws.length)]; rfl
 rw [← hz]
 exact z9N e1
theorem zjK {n : String} {g : Nat} {T : TypeId} {c : Array Value} {d : DataW Unit} (hg : P.globalNamed n = some g) (ht : (P.globals[g]?).map (·.type) = some T) (hN : 0 < c.size) (h : zb7 P W n d) (hr : ∀ cs, RdT P W T cs d → ∀ r, r < c.size → cs[r]? = c[r]?) : RIn W ⟨g, c, T⟩ := by
 obtain ⟨g', t, cs, h1, h2, h3, h4⟩ := h
 obtain rfl := Option.some.inj (hg.symm.trans h1)
 obtain rfl := Option.some.inj (ht.symm.trans h2)
 have key : ∀ r, r < c.size → W.cell? ⟨g, r, none⟩ = c[r]? := fun r hrr => by
  rw [World.var?_cell hg h3 r]
  have := hr cs.toList h4 r hrr
  simpa using this
 refine ⟨?_, fun o ho => key o ho⟩
 have h0 := key 0 hN
 rw [Array.getElem?_eq_getElem hN] at h0
 unfold World.cell? at h0
 cases hh : W.heap[g]? with
 | none => rw [hh] at h0; cases h0
 | some b => exact (Array.getElem?_eq_some_iff.1 hh).1
end
section
variable {H : Type} {enc : TypeId × Value → H} {P : Program} {t : TypeId}
end
end Go.Proofs.YtacflmjoigffpaaGreatDoor
namespace Go.Proofs.YtacflmjoigffpaaGreatDoor
open Go.ChangeShapes Go.WideShapes Go.ChangeAt Go.RowKit
theorem vD {W : World} (h : zb7 Tryz.prog W "signet/blake.orders" Rows.laid_signet_blake_orders) : RIn W (⟨6, arr .i64 160 sgf, 312⟩ : Blk) :=
 ziy (by kernel_rfl) (by kernel_rfl) (by decide) h fun cs hc r hr => by
  have h1 := zjl (M := 10) (N := 16) (rs := [[0, 1, 2, 3, 4, 5, 6, 7, 8, 9, 10, 11, 12, 13, 14, 15], [14, 10, 4, 8, 9, 15, 13, 6, 1, 12, 0, 2, 11, 7, 5, 3], [11, 8, 12, 0, 5, 2, 15, 13, 10, 14, 3, 6, 7, 1, 9, 4], [7, 9, 3, 1, 13, 12, 11, 14, 2, 6, 5, 10, 4, 0, 15, 8], [9, 0, 5, 7, 2, 4, 10, 15, 14, 1, 11, 12, 6, 8, 3, 13], [2, 12, 6, 10, 0, 11, 8, 3, 4, 13, 7, 5, 15, 14, 1, 9], [12, 5, 1, 15, 14, 13, 4, 10, 0, 7, 6, 3, 9, 2, 8, 11], [13, 11, 7, 14, 12, 1, 3, 9, 5, 0, 15, 4, 8, 6, 2, 10], [6, 15, 14, 9, 11, 3, 0, 8, 12, 2, 13, 7, 1, 4, 10, 5], [10, 2, 8, 4, 7, 6, 1, 5, 15, 11, 9, 14, 3, 12, 13, 0]]) (show Tryz.prog.underlying 312 = some (.array 10 311) by kernel_rfl) (show Tryz.prog.underlying 311 = some (.array 16 3) by kernel_rfl) (show Tryz.prog.underlying 3 = some (.int .i64) by kernel_rfl) (show Tryz.prog.cellsOf 3 = 1 by kernel_rfl) (show Tryz.prog.cellsOf 311 = 16 by kernel_rfl) hc r hr
  rw [h1]
  have h2 : ((List.range 160).all fun r => (([[0, 1, 2, 3, 4, 5, 6, 7, 8, 9, 10, 11, 12, 13, 14, 15], [14, 10, 4, 8, 9, 15, 13, 6, 1, 12, 0, 2, 11, 7, 5, 3], [11, 8, 12, 0, 5, 2, 15, 13, 10, 14, 3, 6, 7, 1, 9, 4], [7, 9, 3, 1, 13, 12, 11, 14, 2, 6, 5, 10, 4, 0, 15, 8], [9, 0, 5, 7, 2, 4, 10, 15, 14, 1, 11, 12, 6, 8, 3, 13], [2, 12, 6, 10, 0, 11, 8, 3, 4, 13, 7, 5, 15, 14, 1, 9], [12, 5, 1, 15, 14, 13, 4, 10, 0, 7, 6, 3, 9, 2, 8, 11], [13, 11, 7, 14, 12, 1, 3, 9, 5, 0, 15, 4, 8, 6, 2, 10], [6, 15, 14, 9, 11, 3, 0, 8, 12, 2, 13, 7, 1, 4, 10, 5], [10, 2, 8, 4, 7, 6, 1, 5, 15, 11, 9, 14, 3, 12, 13, 0]] : List (List Int)).getD (r / 16) []).getD (r % 16) 0 == (sgf r : Int)) = true := by decide +kernel
  have h3 := (List.all_eq_true.1 h2) r (List.mem_range.2 hr)
  rw [eq_of_beq h3]
theorem ww {W : World} (h : zb7 Tryz.prog W "signet/signetkeep.bases" Rows.laid_signet_signetkeep_bases) : RIn W (⟨0, (nm6.map sv).toArray, 85⟩ : Blk) :=
 zjK (by kernel_rfl) (by kernel_rfl) (by decide) h fun cs hc r hr => by
  have hr : r < 6 := hr
  rw [zeI (N := 6) (ws := [[78, 78], [78, 75], [88, 88], [73, 75], [88, 75], [75, 75]]) (show Tryz.prog.underlying 85 = some (.array 6 9) by kernel_rfl) (by kernel_rfl) (by kernel_rfl) hc r hr]
  have : r = 0 ∨ r = 1 ∨ r = 2 ∨ r = 3 ∨ r = 4 ∨ r = 5 := by omega
  rcases this with rfl | rfl | rfl | rfl | rfl | rfl <;> rfl
end Go.Proofs.YtacflmjoigffpaaGreatDoor
namespace Go.Proofs.YtacflmjoigffpaaGreatDoor
open Go Go.ChangeShapes Go.WideShapes Go.ChangeAt Go.RowKit
section
variable {H : Type} {enc : TypeId × Value → H} {P : Program} {w : World} {base : Nat} {spare : Nat → Bool} {held : Bool}
theorem z6F {t0 t1 t2 t3 t4 : TypeId} {v0 v1 v2 v3 v4 : Value} {d0 d1 d2 d3 d4 : DataW H} {p0 p1 p2 p3 p4 : List MemPlace} (h0 : DataW.Trod enc P w base spare held t0 v0 d0 p0) (h1 : DataW.Trod enc P w base spare held t1 v1 d1 p1) (h2 : DataW.Trod enc P w base spare held t2 v2 d2 p2) (h3 : DataW.Trod enc P w base spare held t3 v3 d3 p3) (h4 : DataW.Trod enc P w base spare held t4 v4 d4 p4) : DataW.TrodAll enc P w base spare held [t0, t1, t2, t3, t4] [v0, v1, v2, v3, v4] [d0, d1, d2, d3, d4] (p0 ++ (p1 ++ (p2 ++ (p3 ++ p4)))) := ⟨p0, (p1 ++ (p2 ++ (p3 ++ p4))), h0, trodAll_mk4 h1 h2 h3 h4, rfl⟩
theorem z5g {t0 t1 t2 t3 t4 t5 : TypeId} {v0 v1 v2 v3 v4 v5 : Value} {d0 d1 d2 d3 d4 d5 : DataW H} {p0 p1 p2 p3 p4 p5 : List MemPlace} (h0 : DataW.Trod enc P w base spare held t0 v0 d0 p0) (h1 : DataW.Trod enc P w base spare held t1 v1 d1 p1) (h2 : DataW.Trod enc P w base spare held t2 v2 d2 p2) (h3 : DataW.Trod enc P w base spare held t3 v3 d3 p3) (h4 : DataW.Trod enc P w base spare held t4 v4 d4 p4) (h5 : DataW.Trod enc P w base spare held t5 v5 d5 p5) : DataW.TrodAll enc P w base spare held [t0, t1, t2, t3, t4, t5] [v0, v1, v2, v3, v4, v5] [d0, d1, d2, d3, d4, d5] (p0 ++ (p1 ++ (p2 ++ (p3 ++ (p4 ++ p5))))) := ⟨p0, (p1 ++ (p2 ++ (p3 ++ (p4 ++ p5)))), h0, z6F h1 h2 h3 h4 h5, rfl⟩
theorem z5O {t0 t1 t2 t3 t4 t5 t6 : TypeId} {v0 v1 v2 v3 v4 v5 v6 : Value} {d0 d1 d2 d3 d4 d5 d6 : DataW H} {p0 p1 p2 p3 p4 p5 p6 : List MemPlace} (h0 : DataW.Trod enc P w base spare held t0 v0 d0 p0) (h1 : DataW.Trod enc P w base spare held t1 v1 d1 p1) (h2 : DataW.Trod enc P w base spare held t2 v2 d2 p2) (h3 : DataW.Trod enc P w base spare held t3 v3 d3 p3) (h4 : DataW.Trod enc P w base spare held t4 v4 d4 p4) (h5 : DataW.Trod enc P w base spare held t5 v5 d5 p5) (h6 : DataW.Trod enc P w base spare held t6 v6 d6 p6) : DataW.TrodAll enc P w base spare held [t0, t1, t2, t3, t4, t5, t6] [v0, v1, v2, v3, v4, v5, v6] [d0, d1, d2, d3, d4, d5, d6] (p0 ++ (p1 ++ (p2 ++ (p3 ++ (p4 ++ (p5 ++ p6)))))) := ⟨p0, (p1 ++ (p2 ++ (p3 ++ (p4 ++ (p5 ++ p6))))), h0, z5g h1 h2 h3 h4 h5 h6, rfl⟩
theorem z2l {t0 t1 t2 t3 t4 t5 t6 t7 : TypeId} {args : Array Value} {ds : List (DataW H)} {ps : List MemPlace} (h : DataW.TrodAll enc P w base spare held [t0, t1, t2, t3, t4, t5, t6, t7] args.toList ds ps) :
  ∃ v0 v1 v2 v3 v4 v5 v6 v7 d0 d1 d2 d3 d4 d5 d6 d7 p0 p1 p2 p3 p4 p5 p6 p7, args = #[v0, v1, v2, v3, v4, v5, v6, v7] ∧ ds = [d0, d1, d2, d3, d4, d5, d6, d7] ∧ ps = p0 ++ p1 ++ p2 ++ p3 ++ p4 ++ p5 ++ p6 ++ p7 ∧ DataW.Trod enc P w base spare held t0 v0 d0 p0 ∧ DataW.Trod enc P w base spare held t1 v1 d1 p1 ∧ DataW.Trod enc P w base spare held t2 v2 d2 p2 ∧ DataW.Trod enc P w base spare held t3 v3 d3 p3 ∧ DataW.Trod enc P w base spare held t4 v4 d4 p4 ∧ DataW.Trod enc P w base spare held t5 v5 d5 p5 ∧ DataW.Trod enc P w base spare held t6 v6 d6 p6 ∧ DataW.Trod enc P w base spare held t7 v7 d7 p7 := by
 obtain ⟨v0, vs0, d0, ds0, p0, q0, hargs, rfl, rfl, h0, hr0⟩ := trodAll_cons h
 obtain ⟨v1, vs1, d1, ds1, p1, q1, rfl, rfl, rfl, h1, hr1⟩ := trodAll_cons hr0
 obtain ⟨v2, vs2, d2, ds2, p2, q2, rfl, rfl, rfl, h2, hr2⟩ := trodAll_cons hr1
 obtain ⟨v3, vs3, d3, ds3, p3, q3, rfl, rfl, rfl, h3, hr3⟩ := trodAll_cons hr2
 obtain ⟨v4, vs4, d4, ds4, p4, q4, rfl, rfl, rfl, h4, hr4⟩ := trodAll_cons hr3
 obtain ⟨v5, vs5, d5, ds5, p5, q5, rfl, rfl, rfl, h5, hr5⟩ := trodAll_cons hr4
 obtain ⟨v6, vs6, d6, ds6, p6, q6, rfl, rfl, rfl, h6, hr6⟩ := trodAll_cons hr5
 obtain ⟨v7, vs7, d7, ds7, p7, q7, rfl, rfl, rfl, h7, hr7⟩ := trodAll_cons hr6
 obtain ⟨rfl, rfl, rfl⟩ := trodAll_nil hr7
 exact ⟨v0, v1, v2, v3, v4, v5, v6, v7, d0, d1, d2, d3, d4, d5, d6, d7, p0, p1, p2, p3, p4, p5, p6, p7, by cases args; simp_all, rfl, by simp, h0, h1, h2, h3, h4, h5, h6, h7⟩
theorem z5N {t0 t1 t2 t3 t4 t5 t6 t7 : TypeId} {v0 v1 v2 v3 v4 v5 v6 v7 : Value} {d0 d1 d2 d3 d4 d5 d6 d7 : DataW H} {p0 p1 p2 p3 p4 p5 p6 p7 : List MemPlace} (h0 : DataW.Trod enc P w base spare held t0 v0 d0 p0) (h1 : DataW.Trod enc P w base spare held t1 v1 d1 p1) (h2 : DataW.Trod enc P w base spare held t2 v2 d2 p2) (h3 : DataW.Trod enc P w base spare held t3 v3 d3 p3) (h4 : DataW.Trod enc P w base spare held t4 v4 d4 p4) (h5 : DataW.Trod enc P w base spare held t5 v5 d5 p5) (h6 : DataW.Trod enc P w base spare held t6 v6 d6 p6) (h7 : DataW.Trod enc P w base spare held t7 v7 d7 p7) : DataW.TrodAll enc P w base spare held [t0, t1, t2, t3, t4, t5, t6, t7] [v0, v1, v2, v3, v4, v5, v6, v7] [d0, d1, d2, d3, d4, d5, d6, d7] (p0 ++ (p1 ++ (p2 ++ (p3 ++ (p4 ++ (p5 ++ (p6 ++ p7))))))) := ⟨p0, (p1 ++ (p2 ++ (p3 ++ (p4 ++ (p5 ++ (p6 ++ p7)))))), h0, z5O h1 h2 h3 h4 h5 h6 h7, rfl⟩
end
end Go.Proofs.YtacflmjoigffpaaGreatDoor
/-
 Facts on this program's types, in tables.
-/
namespace Go.Proofs.YtacflmjoigffpaaGreatDoor
open Go Go.RowKit
def lkT {α : Type} : List (Nat × α) → Nat → Option α
 | [], _ => none
 | (k, a) :: l, t => bif Nat.beq k t then some a else lkT l t
theorem Wf {α : Type} {f : Nat → Option α} : ∀ {L : List (Nat × α)} {t : Nat} {d : α}, L.map (fun p => f p.1) = L.map (fun p => some p.2) → lkT L t = some d → f t = some d
 | [], _, _, _, h => by cases h
 | (k, a) :: L, t, d, h, hk => by
  rw [List.map_cons, List.map_cons, List.cons.injEq] at h
  unfold lkT at hk
  cases hb : Nat.beq k t with
  | true => rw [hb] at hk; rw [← Nat.eq_of_beq_eq_true hb, h.1]; exact hk
  | false => rw [hb] at hk; exact Wf h.2 hk
theorem zfW : Tryz.prog.follows .mixedOrders = true := by kernel_rfl
def tbu : List (Nat × TypeDesc) := [(3, (.int .i64)), (4, (.bool)), (5, (.int .u8)), (9, (.string)), (22, (.slice 5)), (23, (.array 32 5)), (24, (.slice 30)), (25, (.slice 3)), (26, (.array 2 25)), (27, (.slice 25)), (29, (.struct #[.mk "Base" 9 0 false "" "" 0, .mk "Late" 4 1 false "" "" 16, .mk "Psks" 25 2 false "" "" 24, .mk "Pre" 26 3 false "" "" 48, .mk "Turns" 27 5 false "" "" 96])), (30, (.array 32 5)), (31, (.int .u64)), (33, (.struct #[.mk "Has" 4 0 false "" "" 0, .mk "Key" 30 1 false "" "" 1, .mk "N" 31 33 false "" "" 40])), (35, (.struct #[.mk "Cipher" 33 0 false "" "" 0, .mk "Chain" 30 34 false "" "" 48, .mk "Hash" 30 66 false "" "" 80])), (37, (.struct #[.mk "Pattern" 29 0 false "" "" 0, .mk "First" 4 6 false "" "" 120, .mk "Turn" 3 7 false "" "" 128, .mk "Dead" 4 8 false "" "" 136, .mk "Sym" 35 9 false "" "" 144, .mk "Own" 30 107 false "" "" 256, .mk "Fresh" 30 139 false "" "" 288, .mk "Has" 4 171 false "" "" 320, .mk "Their" 30 172 false "" "" 321, .mk "Knows" 4 204 false "" "" 353, .mk "Newest" 30 205 false "" "" 354, .mk "Saw" 4 237 false "" "" 386, .mk "Psks" 24 238 false "" "" 392, .mk "Used" 3 239 false "" "" 416])), (54, (.struct #[.mk "own" 30 0 false "" "signet/signetkeep" 0, .mk "fresh" 30 32 false "" "signet/signetkeep" 32])), (57, (.array 2 33)), (85, (.array 6 9)), (90, (.slice 54)), (101, (.array 3 30)), (117, (.int .u32)), (118, (.array 2 30)), (122, (.array 4 31)), (125, (.array 2 122)), (127, (.array 2 125)), (141, (.slice 9)), (145, (.array 8 117)), (146, (.array 64 5)), (148, (.struct #[.mk "H" 145 0 false "" "" 0, .mk "Held" 146 8 false "" "" 32, .mk "N" 3 72 false "" "" 96, .mk "Len" 3 73 false "" "" 104])), (155, (.array 16 31)), (157, (.struct #[.mk "x" 155 0 false "" "signet/signetref" 0, .mk "z" 155 16 false "" "signet/signetref" 128])), (170, (.slice 173)), (173, (.struct #[.mk "who" 3 0 false "" "signet/signetref" 0, .mk "token" 3 1 false "" "signet/signetref" 8])), (178, (.array 12 5)), (197, (.slice 22)), (201, (.int .u64)), (211, (.array 32 31)), (212, (.array 3 4)), (213, (.array 2 212)), (214, (.array 8 4)), (216, (.struct #[.mk "keys" 213 0 false "" "signet/pattern" 0, .mk "been" 214 6 false "" "signet/pattern" 6])), (245, (.array 256 5)), (248, (.array 4 117)), (249, (.array 4 248)), (262, (.array 16 5)), (267, (.array 64 5)), (272, (.array 16 117)), (289, (.array 2 31)), (290, (.array 3 31)), (292, (.struct #[.mk "R" 289 0 false "" "" 0, .mk "Pad" 289 2 false "" "" 16, .mk "Acc" 290 4 false "" "" 32, .mk "Held" 262 7 false "" "" 56, .mk "N" 3 23 false "" "" 72])), (307, (.array 8 31)), (311, (.array 16 3)), (312, (.array 10 311)), (324, (.array 2 3)), (341, (.array 16 117)), (344, (.array 5 31)), (345, (.array 5 31)), (357, (.array 3 31))]
theorem zlW : tbu.map (fun p => (fun t => Tryz.prog.underlying t) p.1) = tbu.map (fun p => some p.2) := by kernel_rfl
set_option maxRecDepth 100000 in
theorem Tu {T : TypeId} {d : TypeDesc} (h : lkT tbu T = some d) : Tryz.prog.underlying T = some d := Wf (L := tbu) (f := fun t => Tryz.prog.underlying t) zlW h
theorem Uu (T : TypeId) {d : TypeDesc} (h : lkT tbu T = some d := by rfl) : Tryz.prog.underlying T = some d := Tu h
def tbz : List (Nat × Nat) := [(3, 1), (4, 1), (5, 1), (9, 1), (22, 1), (23, 32), (24, 1), (25, 1), (26, 2), (27, 1), (29, 6), (30, 32), (31, 1), (33, 34), (35, 98), (37, 240), (54, 64), (57, 68), (101, 96), (117, 1), (118, 64), (122, 4), (125, 8), (127, 16), (145, 8), (146, 64), (148, 74), (155, 16), (157, 32), (173, 2), (178, 12), (212, 3), (213, 6), (214, 8), (248, 4), (249, 16), (262, 16), (267, 64), (272, 16), (289, 2), (290, 3), (292, 24), (307, 8), (311, 16), (324, 2), (341, 16), (344, 5), (345, 5), (357, 3)]
theorem zlE : tbz.map (fun p => (fun t => (Tryz.prog.info? t).map (·.size)) p.1) = tbz.map (fun p => some p.2) := by kernel_rfl
set_option maxRecDepth 100000 in
theorem Tz {T : TypeId} {d : Nat} (h : lkT tbz T = some d) : (Tryz.prog.info? T).map (·.size) = some d := Wf (L := tbz) (f := fun t => (Tryz.prog.info? t).map (·.size)) zlE h
theorem Uz (T : TypeId) {d : Nat} (h : lkT tbz T = some d := by rfl) : (Tryz.prog.info? T).map (·.size) = some d := Tz h
def tby : List (Nat × Nat) := [(3, 8), (5, 1), (9, 16), (25, 24), (30, 32), (173, 16)]
theorem zmM : tby.map (fun p => (fun t => (Tryz.prog.info? t).map (·.bytes)) p.1) = tby.map (fun p => some p.2) := by kernel_rfl
set_option maxRecDepth 100000 in
theorem Ty {T : TypeId} {d : Nat} (h : lkT tby T = some d) : (Tryz.prog.info? T).map (·.bytes) = some d := Wf (L := tby) (f := fun t => (Tryz.prog.info? t).map (·.bytes)) zmM h
theorem Uy (T : TypeId) {d : Nat} (h : lkT tby T = some d := by rfl) : (Tryz.prog.info? T).map (·.bytes) = some d := Ty h
def tbb : List (Nat × Value) := [(3, (.int .i64 0)), (5, (.int .u8 0)), (9, (.string ByteArray.empty)), (22, (.slice none 0 0)), (23, (.agg (arr .u8 32 fun _ => 0))), (25, (.slice none 0 0)), (26, (.agg #[.slice none 0 0, .slice none 0 0])), (29, (.agg (zr 6 [pV (.string ByteArray.empty), pV (.bool false), pV (.slice none 0 0), pV (.slice none 0 0), pV (.slice none 0 0), pV (.slice none 0 0)]))), (30, (.agg (arr .u8 32 fun _ => 0))), (33, (.agg (zr 34 [pV (.bool false), pI .u8 32 fun _ => 0, pV (.int .u64 0)]))), (35, (.agg (zr 98 [pV (.bool false), pI .u8 32 fun _ => 0, pV (.int .u64 0), pI .u8 32 fun _ => 0, pI .u8 32 fun _ => 0]))), (37, (.agg (zr 240 [pV (.string ByteArray.empty), pV (.bool false), pV (.slice none 0 0), pV (.slice none 0 0), pV (.slice none 0 0), pV (.slice none 0 0), pV (.bool false), pV (.int .i64 0), pV (.bool false), pV (.bool false), pI .u8 32 fun _ => 0, pV (.int .u64 0), pI .u8 32 fun _ => 0, pI .u8 32 fun _ => 0, pI .u8 32 fun _ => 0, pI .u8 32 fun _ => 0, pV (.bool false), pI .u8 32 fun _ => 0, pV (.bool false), pI .u8 32 fun _ => 0, pV (.bool false), pV (.slice none 0 0), pV (.int .i64 0)]))), (54, (.agg (arr .u8 64 fun _ => 0))), (57, (.agg (zr 68 [pV (.bool false), pI .u8 32 fun _ => 0, pV (.int .u64 0), pV (.bool false), pI .u8 32 fun _ => 0, pV (.int .u64 0)]))), (101, (.agg (arr .u8 96 fun _ => 0))), (118, (.agg (arr .u8 64 fun _ => 0))), (122, (.agg (arr .u64 4 fun _ => 0))), (125, (.agg (arr .u64 8 fun _ => 0))), (127, (.agg (arr .u64 16 fun _ => 0))), (145, (.agg (arr .u32 8 fun _ => 0))), (146, (.agg (arr .u8 64 fun _ => 0))), (148, (.agg (zr 74 [pI .u32 8 fun _ => 0, pI .u8 64 fun _ => 0, pV (.int .i64 0), pV (.int .i64 0)]))), (155, (.agg (arr .u64 16 fun _ => 0))), (157, (.agg (arr .u64 32 fun _ => 0))), (173, (.agg (arr .i64 2 fun _ => 0))), (178, (.agg (arr .u8 12 fun _ => 0))), (211, (.agg (arr .u64 32 fun _ => 0))), (216, (.agg (zO 14 fun _ => .bool false))), (249, (.agg (arr .u32 16 fun _ => 0))), (262, (.agg (arr .u8 16 fun _ => 0))), (267, (.agg (arr .u8 64 fun _ => 0))), (272, (.agg (arr .u32 16 fun _ => 0))), (289, (.agg (arr .u64 2 fun _ => 0))), (290, (.agg (arr .u64 3 fun _ => 0))), (292, (.agg (zr 24 [pI .u64 2 fun _ => 0, pI .u64 2 fun _ => 0, pI .u64 3 fun _ => 0, pI .u8 16 fun _ => 0, pV (.int .i64 0)]))), (307, (.agg (arr .u64 8 fun _ => 0))), (324, (.agg (arr .i64 2 fun _ => 0))), (341, (.agg (arr .u32 16 fun _ => 0))), (344, (.agg (arr .u64 5 fun _ => 0))), (345, (.agg (arr .u64 5 fun _ => 0))), (357, (.agg (arr .u64 3 fun _ => 0)))]
theorem zm4 : tbb.map (fun p => (fun t => (Tryz.prog.info? t).bind (·.zero)) p.1) = tbb.map (fun p => some p.2) := by kernel_rfl
set_option maxRecDepth 100000 in
theorem Tb {T : TypeId} {d : Value} (h : lkT tbb T = some d) : (Tryz.prog.info? T).bind (·.zero) = some d := Wf (L := tbb) (f := fun t => (Tryz.prog.info? t).bind (·.zero)) zm4 h
theorem Ub (T : TypeId) {d : Value} (h : lkT tbb T = some d := by rfl) : (Tryz.prog.info? T).bind (·.zero) = some d := Tb h
def tbn : List Nat := [7, 10, 13, 15, 16, 17, 18, 19, 20, 21, 22, 23, 24, 25, 26, 27, 29, 32, 33, 36, 37, 38, 39, 45, 46, 47, 48, 49, 50, 51, 52, 53, 54, 55, 56, 57, 58, 59, 60, 61, 62, 63, 64, 65, 66, 67, 68, 70, 71, 72, 73, 74, 75, 76, 77, 78, 79, 80, 81, 82, 83, 84, 85, 86, 87, 88, 89, 90, 91, 92, 93, 94, 95, 96, 97, 98, 99, 100, 101, 102, 103, 104, 105, 106, 107, 108, 109, 110, 111, 112, 113, 114, 115, 116, 117, 118, 119, 120, 121, 122, 123, 124, 125, 126, 127, 128, 129, 130, 131, 132, 133, 134, 135, 136, 137, 138, 139, 140, 141, 142, 143, 144, 145, 147, 148, 149, 150, 151, 152, 153, 154, 155, 156, 157, 158, 159, 160, 161, 162, 163, 164, 165, 166, 167, 168, 169, 170, 171, 172, 173, 177, 178, 179, 180, 181, 182, 183, 184, 185, 186, 187, 188, 189, 190, 191, 192, 193, 194, 196, 198, 201, 202, 203, 204, 205, 206, 207, 208, 209, 210, 211, 212, 213, 214, 215, 216, 217, 218, 219, 220, 221, 222, 223, 226, 227, 230, 231, 232, 233, 234, 235, 240, 241, 242, 243, 244, 245, 246, 247, 248, 249, 250, 251, 257, 258, 259, 260, 264, 265, 266, 267, 268, 269, 270, 276, 277, 278, 279, 280, 281, 282, 283, 284, 285, 286, 287, 288, 291, 292, 293, 294, 295, 296, 297, 298, 299, 300, 301, 302, 303, 304]
theorem zkR : tbn.all (fun f => xr Tryz.prog f) = true := by kernel_rfl
theorem Un (f : FuncId) (h : tbn.contains f = true := by rfl) : xr Tryz.prog f = true := List.all_eq_true.1 zkR f (List.contains_iff_mem.1 h)
end Go.Proofs.YtacflmjoigffpaaGreatDoor
