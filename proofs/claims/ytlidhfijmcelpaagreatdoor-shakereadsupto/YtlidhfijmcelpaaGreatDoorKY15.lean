import Derived.Test.YtlidhfijmcelpaaGreatDoorKY14
import Derived.Test.YtlidhfijmcelpaaGreatDoorRows
set_option maxHeartbeats 8000000
set_option maxRecDepth 30000
attribute [local simp] Go.Proofs.YtlidhfijmcelpaaGreatDoor.By Go.Proofs.YtlidhfijmcelpaaGreatDoor.L8
namespace Go.Proofs.YtlidhfijmcelpaaGreatDoor
open Go Go.RowKit
variable {G : Mem}
theorem VF (r : Nat) (es : List Ev) (w k : Nat) (hw : w < 2) (hk : k = 1 ∨ k = 2) : Fq G [(⟨r, kst (stE es), 174⟩ : Blk)] 163 #[ptr r, ii w, ii k] (fun v l1 nw => nw = [] ∧ ∃ c', l1 = [⟨r, c', 174⟩] ∧ (v = Value.bool (!(hap es w k)) ∧ ((!(hap es w k)) = true → c' = kst (stE (es ++ [(w, k)]))))) := by
 refine zdq (n := 22) Tryz.func163 rfl rfl (by simp) (wr [ptr r, ii w, ii k] 0) (yS _) ?_
 refine (gd)<|(ge)<|(gb) ?_
 refine yp rfl rfl ?_
 refine (Qf 0)<|(QB (3 * w))<|(QB (3 * w + k)) ?_
 refine y6 (i := 0) (Uu 4) rfl rfl rfl (yD (by omega)) rfl ⟨[], trivial⟩ ?_
 refine z6 (show _ = Value.bool (hap es w k) from congrArg Value.bool (W9 hk hw)) ?_
 refine Qn ?_
 refine zh rfl ?_ ?_
 ·intro hc0
  refine (j4) ?_
  exact ⟨_, _, _, rfl, yt, (by first | exact ⟨by rw [hc0]; rfl, fun _ => z9h hk hw⟩ | exact ⟨by rw [hc0]; rfl, fun h => by rw [hc0] at h; cases h⟩), 0, rfl⟩
 ·intro hc0
  refine Qk<|(g6)<|(gb) ?_
  refine yp rfl rfl ?_
  refine (Qf 0)<|(QB (3 * w))<|(QB (3 * w + k)) ?_
  refine z50 (i := 0) (Uz 4) rfl rfl rfl rfl (by omega) (.inl rfl) ?_
  refine Qn<|(j4) ?_
  exact ⟨_, _, _, rfl, yt, (by first | exact ⟨by rw [hc0]; rfl, fun _ => z9h hk hw⟩ | exact ⟨by rw [hc0]; rfl, fun h => by rw [hc0] at h; cases h⟩), 0, rfl⟩
theorem z7a (t : Nat) : Fp G 220 #[ii t] (.agg (arr .i64 2 (ltr t))) := by
 refine Qf1 Tryz.func220 ?_
 refine (g4)<|(QH 0) fun r1=>Qn<|(jg)<|(g4)<|(Qc)<|(g3) ?_
 refine zh rfl ?_ ?_
 ·intro hc0
  obtain rfl : t = 3 := by have := of_decide_eq_true hc0; omega
  refine (g4) ?_
  refine zX (arr .i64 2 (ltr 3)) (Ub 272 rfl) (Uu 272 rfl) (Uz 3 rfl) rfl (by kernel_rfl) rfl ?_
  refine (Qt 0)<|Qn<|Qr ?_
  first | (rw [show ltr t = ltr 6 by funext j; unfold ltr; rw [if_neg hn0, if_neg hn1, if_neg hn2]; rfl]) | skip
  exact ⟨_, rfl, ya 0⟩
 ·intro hc0
  have hn0 : ¬ t = 3 := by have := of_decide_eq_false hc0; omega
  refine (g4)<|(Qc)<|(g3) ?_
  refine zh rfl ?_ ?_
  ·intro hc1
   obtain rfl : t = 4 := by have := of_decide_eq_true hc1; omega
   refine (g4) ?_
   refine zX (arr .i64 2 (ltr 4)) (Ub 272 rfl) (Uu 272 rfl) (Uz 3 rfl) rfl (by kernel_rfl) rfl ?_
   refine (Qt 0)<|Qn<|Qr ?_
   first | (rw [show ltr t = ltr 6 by funext j; unfold ltr; rw [if_neg hn0, if_neg hn1, if_neg hn2]; rfl]) | skip
   exact ⟨_, rfl, ya 0⟩
  ·intro hc1
   have hn1 : ¬ t = 4 := by have := of_decide_eq_false hc1; omega
   refine (g4)<|(Qc)<|(g3) ?_
   refine zh rfl ?_ ?_
   ·intro hc2
    obtain rfl : t = 5 := by have := of_decide_eq_true hc2; omega
    refine (g4) ?_
    refine zX (arr .i64 2 (ltr 5)) (Ub 272 rfl) (Uu 272 rfl) (Uz 3 rfl) rfl (by kernel_rfl) rfl ?_
    refine (Qt 0)<|Qn<|Qr ?_
    first | (rw [show ltr t = ltr 6 by funext j; unfold ltr; rw [if_neg hn0, if_neg hn1, if_neg hn2]; rfl]) | skip
    exact ⟨_, rfl, ya 0⟩
   ·intro hc2
    have hn2 : ¬ t = 5 := by have := of_decide_eq_false hc2; omega
    refine Qk<|(g4) ?_
    refine zX (arr .i64 2 (ltr 6)) (Ub 272 rfl) (Uu 272 rfl) (Uz 3 rfl) rfl (by kernel_rfl) rfl ?_
    refine (Qt 0)<|Qn<|Qr ?_
    first | (rw [show ltr t = ltr 6 by funext j; unfold ltr; rw [if_neg hn0, if_neg hn1, if_neg hn2]; rfl]) | skip
    exact ⟨_, rfl, ya 0⟩
theorem z0F (r : Nat) (s : Nat → Bool) (w : Nat) (hw : w < 2) : Fp ((⟨r, kst s, 174⟩ : Blk) :: G) 165 #[ptr r, ii w] (.bool (mlS s w)) := by
 have hmo : 4 ≤ vn (w : Int) ∧ vn (w : Int) ≤ 5 := by unfold vn; split <;> omega
 have hmf : 4 ≤ ve (w : Int) ∧ ve (w : Int) ≤ 5 := by unfold ve; split <;> omega
 refine Qf1 Tryz.func165 ?_
 refine (gd)<|(g4)<|(j3)<|(Qc)<|Qn ?_
 refine Yw [(0, _), (1, _), (4, _), (7, _), (8, _)] [(5, ii (vn w)), (6, ii (ve w))] [] ⟨rfl, rfl, rfl, rfl, rfl, trivial⟩ trivial ?_ ?_
 ·skip
  refine (Qcd) (fun hc0=>?_) fun hc0=>?_
  ·refine Qp<|(Qm)<|(Qm)<|(Qa)<|(Qa)<|Qn ?_
   exact ⟨⟨rfl, rfl, rfl, rfl, rfl, trivial⟩, ⟨(by first | rw [vn, if_pos (by assumption)]; rfl | rw [vn, if_neg (by assumption)]; rfl), (by first | rw [ve, if_pos (by assumption)]; rfl | rw [ve, if_neg (by assumption)]; rfl), trivial⟩, trivial⟩
  ·refine Qk ?_
   exact ⟨⟨rfl, rfl, rfl, rfl, rfl, trivial⟩, ⟨(by first | rw [vn, if_pos (by assumption)]; rfl | rw [vn, if_neg (by assumption)]; rfl), (by first | rw [ve, if_pos (by assumption)]; rfl | rw [ve, if_neg (by assumption)]; rfl), trivial⟩, trivial⟩
 ·simp only [zo]
  refine (gs) ?_
  refine yd [(0, _), (1, _), (4, _), (5, _), (6, _), (7, _), (8, _)] [(25, .bool (s 13 && !(s (3 * w + 1))))] [] ⟨rfl, rfl, rfl, rfl, rfl, rfl, rfl, trivial⟩ trivial ?_ ?_
  ·skip
   refine (Qm) ?_
   refine yp rfl rfl ?_
   refine (Qf 6)<|(QA 13 7) ?_
   refine yo (i := 0) (Uu 4) rfl rfl rfl (yD (by decide)) rfl ?_
   refine (Av (Value.bool (s 13)))<|(Qm) ?_
   refine zn (fun hb0 => ?_) (fun hb0 => ?_)
   ·skip
    refine (Qy)<|(gm) ?_
    refine yp rfl rfl ?_
    refine (Qy)<|(Qf 0)<|(Qy)<|(QB (3 * w))<|(Qy)<|(QA (3 * w + 1) 1)<|(Qy) ?_
    refine yo (i := 0) (Uu 4) rfl rfl rfl (yD (by omega)) rfl ?_
    refine (Av (Value.bool (s (3 * w + 1))))<|(Qy)<|(Q0)<|(QT)<|Qn ?_
    exact ⟨⟨rfl, rfl, rfl, rfl, rfl, rfl, rfl, trivial⟩, ⟨z5 (by rw [hb0] <;> rfl), trivial⟩, trivial⟩
   ·skip
    refine (gg)<|(gg)<|(QF)<|Qn ?_
    exact ⟨⟨rfl, rfl, rfl, rfl, rfl, rfl, rfl, trivial⟩, ⟨z5 (by rw [hb0] <;> rfl), trivial⟩, trivial⟩
  ·simp only [zo]
   refine zh rfl ?_ ?_
   ·intro hc1
    rw [show mlS s w = false by rw [mlS, hc1]; rfl]
    refine (j4) ?_
    exact ⟨_, rfl, yt⟩
   ·intro hc1
    have hz1 := hc1
    refine Qk<|(gs) ?_
    refine yd [(0, _), (1, _), (4, _), (5, _), (6, _), (7, _), (8, _), (25, _)] [(39, .bool (s (6 + vn w) && !(s 9)))] [] ⟨rfl, rfl, rfl, rfl, rfl, rfl, rfl, rfl, trivial⟩ trivial ?_ ?_
    ·skip
     refine (gb) ?_
     refine yp rfl rfl ?_
     refine (Qf 6)<|(QB (6 + vn w)) ?_
     refine yo (i := 0) (Uu 4) rfl rfl rfl (yD (by omega)) rfl ?_
     refine (Av (Value.bool (s (6 + vn w))))<|(Qm) ?_
     refine zn (fun hb1 => ?_) (fun hb1 => ?_)
     ·skip
      refine (Qy)<|(g7) ?_
      refine yp rfl rfl ?_
      refine (Qy)<|(Qf 6)<|(Qy)<|(QA 9 3)<|(Qy) ?_
      refine yo (i := 0) (Uu 4) rfl rfl rfl (yD (by decide)) rfl ?_
      refine (Av (Value.bool (s 9)))<|(Qy)<|(Q0)<|(QT)<|Qn ?_
      exact ⟨⟨rfl, rfl, rfl, rfl, rfl, rfl, rfl, rfl, trivial⟩, ⟨z5 (by rw [hb1] <;> rfl), trivial⟩, trivial⟩
     ·skip
      refine (gg)<|(g5)<|(QF)<|Qn ?_
      exact ⟨⟨rfl, rfl, rfl, rfl, rfl, rfl, rfl, rfl, trivial⟩, ⟨z5 (by rw [hb1] <;> rfl), trivial⟩, trivial⟩
    ·simp only [zo]
     refine zh rfl ?_ ?_
     ·intro hc2
      rw [show mlS s w = false by rw [mlS, hz1, hc2]; rfl]
      refine (j4) ?_
      exact ⟨_, rfl, yt⟩
     ·intro hc2
      rw [show mlS s w = (!(s 12) || s (6 + ve w)) by rw [mlS, hz1, hc2]; rfl]
      refine Qk<|(g4) ?_
      refine yd [(0, _), (1, _), (5, _), (6, _), (7, _), (8, _), (25, _), (39, _)] [(4, .bool (!(s 12) || s (6 + ve w)))] [] ⟨rfl, rfl, rfl, rfl, rfl, rfl, rfl, rfl, trivial⟩ trivial ?_ ?_
      ·skip
       refine (Qm) ?_
       refine yp rfl rfl ?_
       refine (Qf 6)<|(QA 12 6) ?_
       refine yo (i := 0) (Uu 4) rfl rfl rfl (yD (by decide)) rfl ?_
       refine (Av (Value.bool (s 12)))<|(Q0)<|(Qm) ?_
       refine zn (fun hb2 => ?_) (fun hb2 => ?_)
       ·skip
        refine (gg)<|(g5)<|(QT)<|(g3) ?_
        exact ⟨⟨rfl, rfl, rfl, rfl, rfl, rfl, rfl, rfl, trivial⟩, ⟨z5 (by rw [hb2] <;> rfl), trivial⟩, trivial⟩
       ·skip
        refine (Qy)<|(gm) ?_
        refine yp rfl rfl ?_
        refine (Qy)<|(Qf 6)<|(Qy)<|(QB (6 + ve w))<|(Qy) ?_
        refine yo (i := 0) (Uu 4) rfl rfl rfl (yD (by omega)) rfl ?_
        refine (Av (Value.bool (s (6 + ve w))))<|(QF)<|(g3) ?_
        exact ⟨⟨rfl, rfl, rfl, rfl, rfl, rfl, rfl, rfl, trivial⟩, ⟨z5 (by rw [hb2] <;> rfl), trivial⟩, trivial⟩
      ·simp only [zo]
       refine Qr ?_
       exact ⟨_, rfl, yt⟩
theorem XR (v : Value) (vs : List Value) (ls : List (List Int)) (hv : Shows G 1 v vs.length vs) (hL : zm G vs ls) (hn : vs.length ≤ 1000000) : Fp G 89 #[v] (ii (zZ ls)) := by
 have hvl := hL.1
 refine Qf1 Tryz.func89 ?_
 refine (gd)<|(ge)<|(QC hv)<|(Qm)<|Qn<|Qb ?_
 refine QzK [(7, _), (8, _)] [] (fun kk E m => ∃ (i : Nat), kk = vs.length - i ∧ E = [(9, ii i)] ∧ m = [] ∧ (i ≤ vs.length) ∧ (∀ q, q < i → (ls.getD q []).length ≤ 6 ∧ (ls.getD q []).any xk = false)) ⟨0, rfl, rfl, rfl, by omega, fun _ h => absurd h (Nat.not_lt_zero _)⟩ ⟨rfl, rfl, rfl, trivial⟩ trivial ?_
 rintro kk E m ⟨i, rfl, rfl, rfl, hf0_0, hf0_1⟩
 simp only [zo, zu]
 refine (gq) ?_
 refine (Qcd) (fun hc0=>?_) fun hc0=>?_
 ·have hc0 : i < vs.length := by omega
  refine Qk<|Qs<|Qb<|(g4) ?_
  refine yf hv (Uu 27) (Uz 25) rfl rfl (by omega) rfl ?_
  refine (QS) ?_
  refine zR hv za (Uu 25) rfl rfl (xA (by omega)) rfl ?_
  refine (g3)<|(ge)<|(QC (hL.2 i (by omega)))<|(QG)<|Qn ?_
  refine (Qcd) (fun hc1=>?_) fun hc1=>?_
  ·rw [ZF (by omega) hf0_1, zZ, if_pos (by omega)]
   refine (j4) ?_
   first | rw [wg (fun q hq => hf0_1 q (by omega))] | skip
   exact ⟨_, rfl, yt⟩
  ·refine Qk<|Qs<|Qp<|(Qm)<|(QC (hL.2 i (by omega)))<|(Qm)<|Qn<|Qb ?_
   refine QzK [(7, _), (8, _), (9, _), (16, _), (17, _)] [] (fun kk E m => ∃ (j : Nat), kk = (ls.getD i []).length - j ∧ E = [(18, ii j)] ∧ m = [] ∧ (j ≤ (ls.getD i []).length) ∧ (∀ p, p < j → xk ((ls.getD i []).getD p 0) = false)) ⟨0, rfl, rfl, rfl, by omega, fun _ h => absurd h (Nat.not_lt_zero _)⟩ ⟨rfl, rfl, rfl, rfl, rfl, rfl, trivial⟩ trivial ?_
   rintro kk E m ⟨j, rfl, rfl, rfl, hf1_0, hf1_1⟩
   simp only [zo, zu]
   refine (gq) ?_
   refine (Qcd) (fun hc2=>?_) fun hc2=>?_
   ·have hc2 : j < (ls.getD i []).length := by omega
    refine Qk<|Qs<|Qb<|(g4) ?_
    refine yf (hL.2 i (by omega)) (Uu 25) (Uz 3) rfl rfl (by omega) rfl ?_
    refine (QS) ?_
    refine zR (hL.2 i (by omega)) za (Uu 3) rfl rfl (z8u (by omega)) rfl ?_
    refine (j9) ?_
    refine yd [(6, _), (7, _), (8, _), (9, _), (16, _), (17, _), (18, _), (19, _), (20, _), (21, _)] [(27, .bool (xk ((ls.getD i []).getD j 0)))] [] ⟨rfl, rfl, rfl, rfl, rfl, rfl, rfl, rfl, rfl, rfl, trivial⟩ trivial ?_ ?_
    ·skip
     refine (Qm)<|(Ql)<|(Qm) ?_
     refine zn (b := decide ((ls.getD i []).getD j 0 < 1)) (fun hb0 => ?_) (fun hb0 => ?_)
     ·skip
      refine (g5)<|(QT)<|Qn ?_
      exact ⟨⟨rfl, rfl, rfl, rfl, rfl, rfl, rfl, rfl, rfl, rfl, trivial⟩, ⟨z5 (by rw [xk, hb0] <;> rfl), trivial⟩, trivial⟩
     ·skip
      refine (Qy)<|(g7)<|(QG)<|(QF)<|Qn ?_
      exact ⟨⟨rfl, rfl, rfl, rfl, rfl, rfl, rfl, rfl, rfl, rfl, trivial⟩, ⟨z5 (by rw [xk, hb0] <;> rfl), trivial⟩, trivial⟩
    ·simp only [zo]
     refine zh rfl ?_ ?_
     ·intro hc3
      rw [ZF (by omega) hf0_1, zZ, if_neg (by omega), zg5 (by omega) hc3, if_pos rfl]
      refine (j4) ?_
      first | rw [wg (fun q hq => hf0_1 q (by omega))] | skip
      exact ⟨_, rfl, yt⟩
     ·intro hc3
      have hcf := hc3
      refine Qk<|(gk) ?_
      refine QzL ⟨j + 1, rfl, rfl, rfl, by omega, fun p h => by by_cases e : p = j; (subst e; exact hcf); exact hf1_1 p (by omega)⟩ ⟨rfl, rfl, rfl, rfl, rfl, rfl, trivial⟩ trivial ?_
      omega
   ·have hz1 : j = (ls.getD i []).length := by omega
    refine Qe<|(gk) ?_
    refine QzL ⟨i + 1, rfl, rfl, rfl, by omega, fun q h => by by_cases e : q = i; (subst e; exact ⟨by omega, z6h (fun p hp => hf1_1 p (by omega))⟩); exact hf0_1 q (by omega)⟩ ⟨rfl, rfl, rfl, trivial⟩ trivial ?_
    omega
 ·have hz0 : i = vs.length := by omega
  refine Qe<|(j4) ?_
  first | rw [wg (fun q hq => hf0_1 q (by omega))] | skip
  exact ⟨_, rfl, yt⟩
theorem zce (r : Nat) (es : List Ev) (w : Nat) (hw : w < 2) (v : Value) (l : LN) (hv : Shows G 1 v l.length ((ci l).map iv)) (ht : ∀ x ∈ l, 1 ≤ x ∧ x ≤ 7) (hz : l.length ≤ 1000) : Fq G [(⟨r, kst (stE es), 174⟩ : Blk)] 128 #[ptr r, ii w, v] (fun u l1 nw => nw = [] ∧ ∃ c', l1 = [⟨r, c', 174⟩] ∧ (u = Value.bool (z5H es w l) ∧ ((z5H es w l) = true → c' = kst (stE (es ++ yq w l))))) := by
 refine zdq (n := 29) Tryz.func128 rfl rfl (by simp) (wr [ptr r, ii w, v] 0) (yS _) ?_
 refine (gd)<|(ge)<|(QC hv)<|(Qm)<|Qn<|Qb ?_
 refine QzK [(0, _), (1, _), (9, _), (10, _)] [] (fun kk E m => ∃ (j : Nat), kk = l.length - j ∧ E = [(11, ii j)] ∧ m = [(0, some ⟨r, kst (stE (es ++ (yq w l).take j)), 174⟩)] ∧ (j ≤ l.length) ∧ (∀ t, t < j → ZG (es ++ (yq w l).take t) (w, l.getD t 0) = true)) ⟨0, rfl, rfl, rfl, by omega, fun t ht => absurd ht (Nat.not_lt_zero t)⟩ ⟨rfl, rfl, rfl, rfl, rfl, trivial⟩ ⟨(by rw [z1L] <;> rfl), trivial⟩ ?_
 rintro kk E m ⟨j, rfl, rfl, rfl, hf0_0, hf0_1⟩
 simp only [zo, zu]
 refine (gq) ?_
 refine (Qcd) (fun hc0=>?_) fun hc0=>?_
 ·have hc0 : j < l.length := by omega
  refine Qk<|Qs<|Qb<|(g4) ?_
  refine yf hv (Uu 25) (Uz 3) rfl rfl (by omega) rfl ?_
  refine (QS) ?_
  refine zR hv za (Uu 3) rfl rfl (z02 (by omega)) rfl ?_
  refine VS fun x hx => ?_
  refine (g3) ?_
  have hx9 := ht (l.getD j 0) (by rw [List.getD_eq_getElem?_getD, List.getElem?_eq_getElem (by omega)]; exact List.getElem_mem _)
  rw [← hx] at hx9
  refine Qs ?_
  rcases (by omega : x = 1 ∨ x = 2 ∨ 2 < x) with e1 | e2 | e3
  ·skip
   refine QR ⟨[], 5, [], none, none⟩<|(Qm)<|(QN)<|(Qaf)<|(Qm)<|(g5)<|(QF)<|(gm)<|(gm) ?_
   refine wX 0 rfl rfl (Un 163) rfl (fun _ h => by cases h) (VF (G := []) r (es ++ (yq w l).take j) w x hw (.inl e1)) ⟨_, _, rfl, fun _ => rfl⟩ rfl rfl fun v3_1 c3_1 hS3_1 => ?_
   obtain ⟨rfl, hq1⟩ := hS3_1
   refine (Qy)<|(Q0)<|(QF)<|Qn ?_
   refine zh rfl ?_ ?_
   ·intro hc1
    have hap1 : hap (es ++ (yq w l).take j) w x = true := by simpa using hc1
    have hbad : ZG (es ++ (yq w l).take j) (w, l.getD j 0) = false := by rw [Zl, ← hx, hap1]; simp
    have hrow := z0V (show j < l.length by omega) hbad
    refine (j4) ?_
    exact ⟨_, _, _, rfl, yt, (by first | exact ⟨by rw [hrow], fun h => by rw [hrow] at h; cases h⟩ | (rw [hz0, vN]; exact ⟨by rw [VN (fun t h => hf0_1 t (by omega))], fun _ => rfl⟩)), 0, rfl⟩
   ·intro hc1
    have hap0 : hap (es ++ (yq w l).take j) w x = false := by simpa using hc1
    have hok : ZG (es ++ (yq w l).take j) (w, l.getD j 0) = true := by rw [Zl, ← hx, hap0, decide_eq_true (by omega)]; rfl
    obtain rfl := hq1 (by rw [hap0]; rfl)
    refine Qk<|(gk) ?_
    refine QzL ⟨j + 1, rfl, rfl, rfl, by omega, fun t ht => by rcases (by omega : t < j ∨ t = j) with h | rfl; exact hf0_1 t h; exact hok⟩ ⟨rfl, rfl, rfl, rfl, rfl, trivial⟩ ⟨(by rw [WC (by omega), ← hx] <;> rfl), trivial⟩ ?_
    omega
  ·skip
   refine QR ⟨[], 5, [], none, none⟩<|(Qm)<|(QN)<|(Qat)<|(gm)<|(QN)<|(Qaf)<|(QT)<|(gm)<|(gm) ?_
   refine wX 0 rfl rfl (Un 163) rfl (fun _ h => by cases h) (VF (G := []) r (es ++ (yq w l).take j) w x hw (.inr e2)) ⟨_, _, rfl, fun _ => rfl⟩ rfl rfl fun v3_1 c3_1 hS3_1 => ?_
   obtain ⟨rfl, hq1⟩ := hS3_1
   refine (Qy)<|(Q0)<|(QF)<|Qn ?_
   refine zh rfl ?_ ?_
   ·intro hc1
    have hap1 : hap (es ++ (yq w l).take j) w x = true := by simpa using hc1
    have hbad : ZG (es ++ (yq w l).take j) (w, l.getD j 0) = false := by rw [Zl, ← hx, hap1]; simp
    have hrow := z0V (show j < l.length by omega) hbad
    refine (j4) ?_
    exact ⟨_, _, _, rfl, yt, (by first | exact ⟨by rw [hrow], fun h => by rw [hrow] at h; cases h⟩ | (rw [hz0, vN]; exact ⟨by rw [VN (fun t h => hf0_1 t (by omega))], fun _ => rfl⟩)), 0, rfl⟩
   ·intro hc1
    have hap0 : hap (es ++ (yq w l).take j) w x = false := by simpa using hc1
    have hok : ZG (es ++ (yq w l).take j) (w, l.getD j 0) = true := by rw [Zl, ← hx, hap0, decide_eq_true (by omega)]; rfl
    obtain rfl := hq1 (by rw [hap0]; rfl)
    refine Qk<|(gk) ?_
    refine QzL ⟨j + 1, rfl, rfl, rfl, by omega, fun t ht => by rcases (by omega : t < j ∨ t = j) with h | rfl; exact hf0_1 t h; exact hok⟩ ⟨rfl, rfl, rfl, rfl, rfl, trivial⟩ ⟨(by rw [WC (by omega), ← hx] <;> rfl), trivial⟩ ?_
    omega
  ·skip
   refine (j0)<|(QN)<|(Qat)<|(gm)<|(QN)<|(Qat)<|(QT)<|(j6)<|(Qo)<|(QT)<|(gu) ?_
   have hbad : ZG (es ++ (yq w l).take j) (w, l.getD j 0) = false := by rw [Zl, ← hx, decide_eq_false (by omega)]; rfl
   have hrow := z0V (show j < l.length by omega) hbad
   refine (j4) ?_
   exact ⟨_, _, _, rfl, yt, (by first | exact ⟨by rw [hrow], fun h => by rw [hrow] at h; cases h⟩ | (rw [hz0, vN]; exact ⟨by rw [VN (fun t h => hf0_1 t (by omega))], fun _ => rfl⟩)), 0, rfl⟩
 ·have hz0 : j = l.length := by omega
  refine Qe<|(j4) ?_
  exact ⟨_, _, _, rfl, yt, (by first | exact ⟨by rw [hrow], fun h => by rw [hrow] at h; cases h⟩ | (rw [hz0, vN]; exact ⟨by rw [VN (fun t h => hf0_1 t (by omega))], fun _ => rfl⟩)), 0, rfl⟩
theorem zh8 (r : Nat) (es : List Ev) (w t : Nat) (h3 : 3 ≤ t) (h6 : t ≤ 6) : Fq G [(⟨r, kst (stE es), 174⟩ : Blk)] 193 #[ptr r, ii t] (fun v l1 nw => nw = [] ∧ ∃ c', l1 = [⟨r, c', 174⟩] ∧ (v = Value.bool (okT es w t) ∧ ((okT es w t) = true → c' = kst (stE (es ++ [(w, t)]))))) := by
 have hl0 := z3m t 0
 have hl1 := z3m t 1
 have hmb := zeo (es := es) (w := w) h3 h6
 refine zdq (n := 41) Tryz.func193 rfl rfl (by simp) (wr [ptr r, ii t] 0) (yS _) ?_
 refine (gd)<|(g6) ?_
 refine (Ca (z7a t))<|(QH 1) fun r2=>(ja)<|Qs<|(gr) ?_
 refine yd [(0, _), (1, _), (4, _), (5, _), (6, _), (7, _)] [(35, .bool (za6 (stE es) t))] [(0, some _), (1, some _)] ⟨rfl, rfl, rfl, rfl, rfl, rfl, trivial⟩ ⟨rfl, rfl, trivial⟩ ?_ ?_
 ·skip
  refine (gb) ?_
  refine yp rfl rfl ?_
  refine (Qf 6)<|(QB (6 + t)) ?_
  refine y6 (i := 0) (Uu 4) rfl rfl rfl (yD (by omega)) rfl ⟨[], trivial⟩ ?_
  refine (Av (Value.bool (stE es (6 + t))))<|(Qm) ?_
  refine zn (fun hb0 => ?_) (fun hb0 => ?_)
  ·skip
   refine (gg)<|(gg)<|(Qo)<|(QT)<|(j6)<|(gg)<|(Qo)<|(QT)<|Qn ?_
   exact ⟨⟨rfl, rfl, rfl, rfl, rfl, rfl, trivial⟩, ⟨z5 (by rw [za6, hb0] <;> rfl), trivial⟩, ⟨rfl, rfl, trivial⟩⟩
  ·skip
   refine (Qy)<|(g7)<|(Qj 0)<|(Qy)<|(Q1 1)<|(Qy) ?_
   refine yp rfl rfl ?_
   refine (Qy)<|(Qf 0)<|(Qy)<|(QA 0 0)<|(Qy)<|(Qi)<|(Qy) ?_
   refine y6 (i := 0) (Uu 4) rfl rfl rfl (yD (by omega)) rfl ⟨[], trivial⟩ ?_
   refine z6 (show _ = Value.bool (stE es (ltr t 0)) by first | rfl | (rw [Nat.zero_add])) ?_
   refine (Qy)<|(Q0)<|(QF)<|(Qm) ?_
   refine zn (fun hb1 => ?_) (fun hb1 => ?_)
   ·skip
    refine (gg)<|(gg)<|(Qo)<|(QT)<|Qn ?_
    exact ⟨⟨rfl, rfl, rfl, rfl, rfl, rfl, trivial⟩, ⟨z5 (by rw [za6, hb0, hb1] <;> rfl), trivial⟩, ⟨rfl, rfl, trivial⟩⟩
   ·skip
    refine (Qy)<|(g7)<|(Qj 1)<|(Qy)<|(Q1 1)<|(Qy) ?_
    refine yp rfl rfl ?_
    refine (Qy)<|(Qf 0)<|(Qy)<|(QA 3 1)<|(Qy)<|(QB (3 + ltr t 1))<|(Qy) ?_
    refine y6 (i := 0) (Uu 4) rfl rfl rfl (yD (by omega)) rfl ⟨[], trivial⟩ ?_
    refine (Av (Value.bool (stE es (3 + ltr t 1))))<|(Qy)<|(Q0)<|(QF)<|Qn ?_
    exact ⟨⟨rfl, rfl, rfl, rfl, rfl, rfl, trivial⟩, ⟨z5 (by rw [za6, hb0, hb1] <;> rfl), trivial⟩, ⟨rfl, rfl, trivial⟩⟩
 ·simp only [zo]
  refine zh rfl ?_ ?_
  ·intro hc0
   have hno : okT es w t = false := by rw [hc0] at hmb; simpa using hmb
   refine (j4) ?_
   exact ⟨_, _, _, rfl, yt, (by first | exact ⟨by rw [hno], fun _ => ZV h3 (by omega)⟩ | exact ⟨by rw [hno], fun h => by rw [hno] at h; cases h⟩), 0, rfl⟩
  ·intro hc0
   have hno : okT es w t = true := by rw [hc0] at hmb; simpa using hmb
   refine Qk<|(g6)<|(Qm) ?_
   refine yp rfl rfl ?_
   refine (Qf 6)<|(QB (6 + t)) ?_
   refine z50 (i := 0) (Uz 4) rfl rfl rfl rfl (by omega) (.inl rfl) ?_
   refine Qn<|(j4) ?_
   exact ⟨_, _, _, rfl, yt, (by first | exact ⟨by rw [hno], fun _ => ZV h3 (by omega)⟩ | exact ⟨by rw [hno], fun h => by rw [hno] at h; cases h⟩), 0, rfl⟩
theorem zju (r : Nat) (es : List Ev) (w x : Nat) (hw : w < 2) (h1 : 1 ≤ x) (h7 : x ≤ 7) : Fq G [(⟨r, kst (stE es), 174⟩ : Blk)] 164 #[ptr r, ii w, ii x] (fun v l1 nw => nw = [] ∧ ∃ c', l1 = [⟨r, c', 174⟩] ∧ (v = Value.bool (okT es w x) ∧ ((okT es w x) = true → c' = kst (stE (es ++ [(w, x)]))))) := by
 refine zdq (n := 35) Tryz.func164 rfl rfl (by simp) (wr [ptr r, ii w, ii x] 0) (yS _) ?_
 refine (gd)<|(jg)<|(g4)<|(Qc)<|(g3) ?_
 refine zh rfl ?_ ?_
 ·intro hc0
  obtain rfl : x = 1 := by have := of_decide_eq_true hc0; omega
  refine Qs<|QR ⟨[], 5, [], none, none⟩<|(gb)<|(Qm) ?_
  refine wX 0 rfl rfl (Un 163) rfl (fun _ h => by cases h) (VF (G := []) r es w 1 hw (.inl rfl)) ⟨_, _, rfl, fun _ => rfl⟩ rfl rfl fun v2_1 c2_1 hS2_1 => ?_
  obtain ⟨rfl, hq1⟩ := hS2_1
  refine (gt) ?_
  exact ⟨_, _, _, rfl, yt, (by first | exact ⟨by rw [wP]; rfl, fun h => hq1 (by rw [wP] at h; exact h)⟩ | exact ⟨by rw [yz hw, hml]; rfl, fun h => hq2 (by rw [yz hw, hml] at h; exact h)⟩ | exact ⟨by rw [yz hw, hml]; rfl, fun h => by rw [yz hw, hml] at h; cases h⟩ | exact ⟨rfl, fun _ => ZV (by decide) (by decide)⟩ | exact ⟨rfl, hq4⟩), 0, rfl⟩
 ·intro hc0
  have hx1 : ¬ x = 1 := by have := of_decide_eq_false hc0; omega
  refine (g4)<|(Qc)<|(g3) ?_
  refine zh rfl ?_ ?_
  ·intro hc1
   obtain rfl : x = 2 := by have := of_decide_eq_true hc1; omega
   refine Qs ?_
   cases hml : mlS (stE es) w
   ·skip
    refine Qp<|(gb) ?_
    refine vr [_] rfl rfl (Un 165) ⟨⟨0, rfl⟩, trivial⟩ (z0F (G := []) r (stE es) w hw) rfl rfl rfl ?_
    refine (Ab hml)<|(j6)<|(QF)<|(gt) ?_
    exact ⟨_, _, _, rfl, yt, (by first | exact ⟨by rw [wP]; rfl, fun h => hq1 (by rw [wP] at h; exact h)⟩ | exact ⟨by rw [yz hw, hml]; rfl, fun h => hq2 (by rw [yz hw, hml] at h; exact h)⟩ | exact ⟨by rw [yz hw, hml]; rfl, fun h => by rw [yz hw, hml] at h; cases h⟩ | exact ⟨rfl, fun _ => ZV (by decide) (by decide)⟩ | exact ⟨rfl, hq4⟩), 0, rfl⟩
   ·skip
    refine QR ⟨[], 5, [], none, none⟩<|(gb) ?_
    refine vr [_] rfl rfl (Un 165) ⟨⟨0, rfl⟩, trivial⟩ (z0F (G := []) r (stE es) w hw) rfl rfl rfl ?_
    refine (Ab hml)<|(gm)<|(gm) ?_
    refine wX 0 rfl rfl (Un 163) rfl (fun _ h => by cases h) (VF (G := []) r es w 2 hw (.inr rfl)) ⟨_, _, rfl, fun _ => rfl⟩ rfl rfl fun v4_1 c4_1 hS4_1 => ?_
    obtain ⟨rfl, hq2⟩ := hS4_1
    refine (QT)<|(gt) ?_
    exact ⟨_, _, _, rfl, yt, (by first | exact ⟨by rw [wP]; rfl, fun h => hq1 (by rw [wP] at h; exact h)⟩ | exact ⟨by rw [yz hw, hml]; rfl, fun h => hq2 (by rw [yz hw, hml] at h; exact h)⟩ | exact ⟨by rw [yz hw, hml]; rfl, fun h => by rw [yz hw, hml] at h; cases h⟩ | exact ⟨rfl, fun _ => ZV (by decide) (by decide)⟩ | exact ⟨rfl, hq4⟩), 0, rfl⟩
  ·intro hc1
   have hx2 : ¬ x = 2 := by have := of_decide_eq_false hc1; omega
   refine (g4)<|(Qc)<|(g3) ?_
   refine zh rfl ?_ ?_
   ·intro hc2
    obtain rfl : x = 7 := by have := of_decide_eq_true hc2; omega
    refine (g6)<|(Qm) ?_
    refine yp rfl rfl ?_
    refine (Qf 6) ?_
    refine zj8 (6 + 7) (Uu 172) (Uz 4) rfl rfl (by decide) (by omega) rfl ?_
    refine z50 (i := 0) (Uz 4) rfl rfl rfl rfl (by omega) (.inl rfl) ?_
    refine Qn<|(j4) ?_
    exact ⟨_, _, _, rfl, yt, (by first | exact ⟨by rw [wP]; rfl, fun h => hq1 (by rw [wP] at h; exact h)⟩ | exact ⟨by rw [yz hw, hml]; rfl, fun h => hq2 (by rw [yz hw, hml] at h; exact h)⟩ | exact ⟨by rw [yz hw, hml]; rfl, fun h => by rw [yz hw, hml] at h; cases h⟩ | exact ⟨rfl, fun _ => ZV (by decide) (by decide)⟩ | exact ⟨rfl, hq4⟩), 0, rfl⟩
   ·intro hc2
    have hx7 : ¬ x = 7 := by have := of_decide_eq_false hc2; omega
    refine Qk<|Qs<|QR ⟨[], 5, [], none, none⟩<|(gb) ?_
    refine wX 0 rfl rfl (Un 193) rfl (fun _ h => by cases h) (zh8 (G := []) r es w x (by omega) (by omega)) ⟨_, _, rfl, fun _ => rfl⟩ rfl rfl fun v4_1 c4_1 hS4_1 => ?_
    obtain ⟨rfl, hq4⟩ := hS4_1
    refine (gt) ?_
    exact ⟨_, _, _, rfl, yt, (by first | exact ⟨by rw [wP]; rfl, fun h => hq1 (by rw [wP] at h; exact h)⟩ | exact ⟨by rw [yz hw, hml]; rfl, fun h => hq2 (by rw [yz hw, hml] at h; exact h)⟩ | exact ⟨by rw [yz hw, hml]; rfl, fun h => by rw [yz hw, hml] at h; cases h⟩ | exact ⟨rfl, fun _ => ZV (by decide) (by decide)⟩ | exact ⟨rfl, hq4⟩), 0, rfl⟩
theorem zh1 (r : Nat) (es : List Ev) (w : Nat) (hw : w < 2) (v : Value) (l : LN) (hv : Shows G 1 v l.length ((ci l).map iv)) (ht : ∀ x ∈ l, 1 ≤ x ∧ x ≤ 7) (hz : l.length ≤ 1000) : Fq G [(⟨r, kst (stE es), 174⟩ : Blk)] 129 #[ptr r, ii w, v] (fun u l1 nw => nw = [] ∧ ∃ c', l1 = [⟨r, c', 174⟩] ∧ (u = Value.bool (z3d es w l) ∧ ((z3d es w l) = true → c' = kst (stE (es ++ yq w (l ++ [0])))))) := by
 refine zdq (n := 24) Tryz.func129 rfl rfl (by simp) (wr [ptr r, ii w, v] 0) (yS _) ?_
 refine (gd)<|(ge)<|(QC hv)<|(Qm)<|Qn<|Qb ?_
 refine QzK [(0, _), (1, _), (9, _), (10, _)] [] (fun kk E m => ∃ (j : Nat), kk = l.length - j ∧ E = [(11, ii j)] ∧ m = [(0, some ⟨r, kst (stE (es ++ (yq w l).take j)), 174⟩)] ∧ (j ≤ l.length) ∧ (∀ t, t < j → okT (es ++ (yq w l).take t) w (l.getD t 0) = true)) ⟨0, rfl, rfl, rfl, by omega, fun t ht => absurd ht (Nat.not_lt_zero t)⟩ ⟨rfl, rfl, rfl, rfl, rfl, trivial⟩ ⟨(by rw [z1L] <;> rfl), trivial⟩ ?_
 rintro kk E m ⟨j, rfl, rfl, rfl, hf0_0, hf0_1⟩
 simp only [zo, zu]
 refine (gq) ?_
 refine (Qcd) (fun hc0=>?_) fun hc0=>?_
 ·have hc0 : j < l.length := by omega
  refine Qk<|Qs<|Qb<|(g4) ?_
  refine yf hv (Uu 25) (Uz 3) rfl rfl (by omega) rfl ?_
  refine (QS) ?_
  refine zR hv za (Uu 3) rfl rfl (z02 (by omega)) rfl ?_
  refine VS fun x hx => ?_
  refine (g3) ?_
  have hx9 := ht (l.getD j 0) (by rw [List.getD_eq_getElem?_getD, List.getElem?_eq_getElem (by omega)]; exact List.getElem_mem _)
  rw [← hx] at hx9
  refine Qs<|QR ⟨[], 5, [], none, none⟩<|(gb)<|(Qm) ?_
  refine wX 0 rfl rfl (Un 164) rfl (fun _ h => by cases h) (zju (G := []) r (es ++ (yq w l).take j) w x hw hx9.1 hx9.2) ⟨_, _, rfl, fun _ => rfl⟩ rfl rfl fun v2_1 c2_1 hS2_1 => ?_
  obtain ⟨rfl, hq1⟩ := hS2_1
  refine (Q0)<|Qn ?_
  refine zh rfl ?_ ?_
  ·intro hc1
   have hrow : z3d es w l = false := zd0 (show j < l.length by omega) (by rw [← hx]; simpa using hc1)
   refine (j4) ?_
   exact ⟨_, _, _, rfl, yt, (by first | exact ⟨by rw [hrow], fun h => by rw [hrow] at h; cases h⟩ | (rw [hz0, vN, z4R (fun t h => hf0_1 t (by omega)), z4Z hw]; exact ⟨rfl, fun _ => z4U⟩)), 0, rfl⟩
  ·intro hc1
   have hok0 : okT (es ++ (yq w l).take j) w x = true := by simpa using hc1
   have hok : okT (es ++ (yq w l).take j) w (l.getD j 0) = true := by rw [← hx]; exact hok0
   obtain rfl := hq1 hok0
   refine Qk<|(gk) ?_
   refine QzL ⟨j + 1, rfl, rfl, rfl, by omega, fun t ht => by rcases (by omega : t < j ∨ t = j) with h | rfl; exact hf0_1 t h; exact hok⟩ ⟨rfl, rfl, rfl, rfl, rfl, trivial⟩ ⟨(by rw [WC (by omega), ← hx] <;> rfl), trivial⟩ ?_
   omega
 ·have hz0 : j = l.length := by omega
  refine Qe<|(g6)<|(Qm) ?_
  refine vr [_] rfl rfl (Un 165) ⟨⟨0, rfl⟩, trivial⟩ (z0F (G := []) r _ w hw) rfl rfl rfl ?_
  refine (gt) ?_
  exact ⟨_, _, _, rfl, yt, (by first | exact ⟨by rw [hrow], fun h => by rw [hrow] at h; cases h⟩ | (rw [hz0, vN, z4R (fun t h => hf0_1 t (by omega)), z4Z hw]; exact ⟨rfl, fun _ => z4U⟩)), 0, rfl⟩
theorem zbS (base : LN) (late : Bool) (vp v0 v1 vt : Value) (tvs : List Value) (q0 q1 : LN) (us : List (LN)) (hvt : Shows G 1 vt tvs.length tvs) (hLI : zm G (v0 :: v1 :: tvs) (ci q0 :: ci q1 :: us.map ci)) (htk : ∀ q ∈ q0 :: q1 :: us, q.length ≤ 6 ∧ ∀ x ∈ q, 1 ≤ x ∧ x ≤ 7) (hn5 : us.length ≤ 5) : Fp G 90 #[.agg (cells 6 [pV (sv base), pV (.bool late), pV vp, pV v0, pV v1, pV vt])] (.bool (decide (z1t (evL late q0 q1 us) = 0))) := by
 have hT := zr (zr hLI)
 have hv0 := VD hLI
 have hv1 := VD (zr hLI)
 have hvq := z2u hv0 hv1
 have htl : tvs.length = us.length := by have := hT.1; rwa [List.length_map] at this
 obtain ⟨L, hL⟩ : ∃ L, L = evL late q0 q1 us := ⟨_, rfl⟩
 have hLl : L.length = 2 + us.length := by rw [hL]; exact z8M
 have hLa : ∀ a, a < 2 → L.getD a [] = yq a (qq q0 q1 a) := fun a ha => by rw [hL]; exact z8Z ha
 have hLt : ∀ i, i < us.length → L.getD (2 + i) [] = yq (xQ late i) (us.getD i [] ++ [0]) := fun i hi => by rw [hL]; exact z5t hi
 rw [← hL]
 have hqt : ∀ a, (qq q0 q1 a).length ≤ 6 ∧ ∀ x ∈ qq q0 q1 a, 1 ≤ x ∧ x ≤ 7 := fun a => by unfold qq; split; exact htk q0 (by simp); exact htk q1 (by simp)
 have hut : ∀ i, i < us.length → (us.getD i []).length ≤ 6 ∧ ∀ x ∈ us.getD i [], 1 ≤ x ∧ x ≤ 7 := fun i hi => htk _ (by rw [List.getD_eq_getElem?_getD, List.getElem?_eq_getElem hi]; simp)
 refine Qf1 Tryz.func90 ?_
 refine (g4)<|(Qh 0) fun r1=>(j9)<|(QH 1) fun r2=>Qn<|(gs)<|(Qf 3) ?_
 refine z8N (i := 0) (Uu 26) rfl (Uz 26) rfl rfl (by decide) rfl ⟨[], trivial⟩ ?_
 refine z6 (show _ = Value.agg (zM 2 (fun t => vq v0 v1 t)) from congrArg Value.agg (yB fun j hj => by have h9 : j = 0 ∨ j = 1 := (by omega); rcases h9 with rfl | rfl <;> rfl)) ?_
 refine (Qm)<|Qn<|Qb ?_
 refine QzK [(1, _), (3, _), (10, _)] [(0, _)] (fun kk E m => ∃ (a : Nat), kk = 2 - a ∧ E = [(11, ii a)] ∧ m = [(1, some ⟨r2, kst (stE (zj L a 0)), 174⟩)] ∧ (a ≤ 2) ∧ (∀ s t, s < a → t < (L.getD s []).length → vK L s t = true)) ⟨0, rfl, rfl, rfl, by omega, fun _ _ h => absurd h (Nat.not_lt_zero _)⟩ ⟨rfl, rfl, rfl, rfl, trivial⟩ ⟨(by rw [Xf, show (kst (stE []) : Array Value) = _ from yB fun j _ => by rw [zhT]] <;> rfl), rfl, trivial⟩ ?_
 rintro kk E m ⟨a, rfl, rfl, rfl, hf0_0, hf0_1⟩
 simp only [zo, zu]
 refine (gq) ?_
 refine (Qcd) (fun hc0=>?_) fun hc0=>?_
 ·have hc0 : a < 2 := by omega
  refine (jq) ?_
  refine z6s (Uu 26) (Uu 25) rfl (Uz 25) rfl rfl (by omega) rfl ?_
  refine (g8)<|Qs<|QR ⟨[], 5, [], none, none⟩<|(gb) ?_
  refine wX 1 rfl rfl (Un 128) rfl (fun z hz => .inl hz) (zce (G := G) r2 (zj L a 0) a (by omega) (vq v0 v1 a) (qq q0 q1 a) (hvq a (by omega)) (hqt a).2 (by have := (hqt a).1; omega)) ⟨_, _, rfl, fun _ => rfl⟩ rfl rfl fun v2_1 c2_1 hS2_1 => ?_
  obtain ⟨rfl, hq1⟩ := hS2_1
  refine (Q0)<|Qn ?_
  refine zh rfl ?_ ?_
  ·intro hc1
   have hbad : z5H (zj L a 0) a (qq q0 q1 a) = false := by simpa using hc1
   rw [zhA (by omega) (by omega) (hLa a (by omega)) hbad]
   refine (j4) ?_
   first | rw [YQ (fun s t hs ht => by by_cases h2 : s < 2; exact hf0_1 s t (by omega) ht; (obtain ⟨s, rfl⟩ : ∃ r, s = 2 + r := ⟨s - 2, by omega⟩); exact hf1_1 s t (by omega) ht)] | skip
   exact ⟨_, rfl, yt⟩
  ·intro hc1
   have hok : z5H (zj L a 0) a (qq q0 q1 a) = true := by simpa using hc1
   obtain rfl := hq1 hok
   refine Qk<|(gk) ?_
   refine QzL ⟨a + 1, rfl, rfl, rfl, by omega, fun s t hs ht => by by_cases e : s = a; (subst e; exact zk1 (by omega) (hLa s (by omega)) hok t ht); exact hf0_1 s t (by omega) ht⟩ ⟨rfl, rfl, rfl, rfl, trivial⟩ ⟨(by rw [← z4u (by omega), hLa a (by omega)] <;> rfl), rfl, trivial⟩ ?_
   omega
 ·have hz0 : a = 2 := by omega
  refine Qe<|(gd)<|(gs)<|(Qf 1)<|(QV 1 0)<|Qn ?_
  refine Yw [(1, _), (3, _), (10, _), (11, _), (12, _), (20, _), (21, _)] [(6, ii (xQ late 0))] [(0, some _), (1, some ⟨r2, kst (stE (zj L a 0)), 174⟩)] ⟨rfl, rfl, rfl, rfl, rfl, rfl, rfl, trivial⟩ ⟨rfl, rfl, trivial⟩ ?_ ?_
  ·skip
   refine zh rfl ?_ ?_
   ·intro hc2
    have hcL := hc2
    refine Qp<|(g3) ?_
    exact ⟨⟨rfl, rfl, rfl, rfl, rfl, rfl, rfl, trivial⟩, ⟨(by rw [xQ, hcL] <;> rfl), trivial⟩, ⟨rfl, rfl, trivial⟩⟩
   ·intro hc2
    have hcL := hc2
    refine Qk ?_
    exact ⟨⟨rfl, rfl, rfl, rfl, rfl, rfl, rfl, trivial⟩, ⟨(by rw [xQ, hcL] <;> rfl), trivial⟩, ⟨rfl, rfl, trivial⟩⟩
  ·simp only [zo]
   refine (gs)<|(jd)<|(QC hvt)<|(Qm)<|Qn<|Qb ?_
   refine QzK [(1, _), (3, _), (10, _), (11, _), (23, _), (24, _)] [(0, _)] (fun kk E m => ∃ (i : Nat), kk = tvs.length - i ∧ E = [(6, ii (xQ late i)), (25, ii i)] ∧ m = [(1, some ⟨r2, kst (stE (zj L (2 + i) 0)), 174⟩)] ∧ (i ≤ tvs.length) ∧ (∀ s t, s < i → t < (L.getD (2 + s) []).length → vK L (2 + s) t = true)) ⟨0, rfl, rfl, rfl, by omega, fun _ _ h => absurd h (Nat.not_lt_zero _)⟩ ⟨rfl, rfl, rfl, rfl, rfl, rfl, rfl, rfl, trivial⟩ ⟨(by rw [hz0] <;> rfl), rfl, trivial⟩ ?_
   rintro kk E m ⟨i, rfl, rfl, rfl, hf1_0, hf1_1⟩
   simp only [zo, zu]
   have hwl := zgy late i
   refine (gq) ?_
   refine (Qcd) (fun hc3=>?_) fun hc3=>?_
   ·have hc3 : i < tvs.length := by omega
    refine Qk<|Qs<|Qb<|(g4) ?_
    refine yf hvt (Uu 27) (Uz 25) rfl rfl (by omega) rfl ?_
    refine (QS) ?_
    refine zR hvt za (Uu 25) rfl rfl (xA (by omega)) rfl ?_
    refine (g3)<|Qs<|Qs<|QR ⟨[], 5, [], none, none⟩<|(gb) ?_
    refine wX 1 rfl rfl (Un 129) rfl (fun z hz => .inl hz) (zh1 (G := G) r2 (zj L (2 + i) 0) (xQ late i) hwl (tvs.getD i undef) (us.getD i []) (ziy hT (by omega)) (hut i (by omega)).2 (by have := (hut i (by omega)).1; omega)) ⟨_, _, rfl, fun _ => rfl⟩ rfl rfl fun v4_1 c4_1 hS4_1 => ?_
    obtain ⟨rfl, hq2⟩ := hS4_1
    refine (Q0)<|Qn ?_
    refine zh rfl ?_ ?_
    ·intro hc4
     have hbad : z3d (zj L (2 + i) 0) (xQ late i) (us.getD i []) = false := by simpa using hc4
     rw [zdK (by omega) (hLt i (by omega)) hbad]
     refine (j4) ?_
     first | rw [YQ (fun s t hs ht => by by_cases h2 : s < 2; exact hf0_1 s t (by omega) ht; (obtain ⟨s, rfl⟩ : ∃ r, s = 2 + r := ⟨s - 2, by omega⟩); exact hf1_1 s t (by omega) ht)] | skip
     exact ⟨_, rfl, yt⟩
    ·intro hc4
     have hok : z3d (zj L (2 + i) 0) (xQ late i) (us.getD i []) = true := by simpa using hc4
     obtain rfl := hq2 hok
     refine Qk<|(j0) ?_
     refine yP (p := 1) rfl rfl rfl (by omega) (by omega) ?_
     refine (jb) ?_
     refine QzL ⟨i + 1, rfl, rfl, rfl, by omega, fun s t hs ht => by by_cases e : s = i; (subst e; exact zgk (hLt s (by omega)) hok t ht); exact hf1_1 s t (by omega) ht⟩ ⟨(by rw [← z9U] <;> rfl), rfl, rfl, rfl, rfl, rfl, rfl, rfl, trivial⟩ ⟨(by rw [show 2 + (i + 1) = 2 + i + 1 by omega, ← z4u (by omega), hLt i (by omega)] <;> rfl), rfl, trivial⟩ ?_
     omega
   ·have hz1 : i = tvs.length := by omega
    refine Qe<|(j4) ?_
    first | rw [YQ (fun s t hs ht => by by_cases h2 : s < 2; exact hf0_1 s t (by omega) ht; (obtain ⟨s, rfl⟩ : ∃ r, s = 2 + r := ⟨s - 2, by omega⟩); exact hf1_1 s t (by omega) ht)] | skip
    exact ⟨_, rfl, yt⟩
theorem zf2 (base : LN) (late : Bool) (vp v0 v1 vt : Value) (tvs : List Value) (p0 p1 : List Int) (ts : List (List Int)) (hvt : Shows G 1 vt tvs.length tvs) (hLI : zm G (v0 :: v1 :: tvs) (p0 :: p1 :: ts)) (h : ts.length = 0 ∨ 5 < ts.length) : Fp G 51 #[.agg (cells 6 [pV (sv base), pV (.bool late), pV vp, pV v0, pV v1, pV vt])] (ii 1) := by
 have hT := zr (zr hLI)
 have htl : tvs.length = ts.length := hT.1
 refine Qf1 Tryz.func51 ?_
 refine (g4)<|(Qh 0) fun r1=>(g3)<|(gs) ?_
 refine yd [(0, _), (1, _), (2, _)] [(14, .bool (decide ((tvs.length : Int) < 1) || decide ((5 : Int) < (tvs.length : Int))))] [(0, some _)] ⟨rfl, rfl, rfl, trivial⟩ ⟨rfl, trivial⟩ ?_ ?_
 ·skip
  refine (jd)<|(QC hvt)<|(Ql)<|(Qm) ?_
  refine zn (fun hb0 => ?_) (fun hb0 => ?_)
  ·skip
   refine (gg)<|(QT)<|Qn ?_
   exact ⟨⟨rfl, rfl, rfl, trivial⟩, ⟨z5 (by rw [hb0] <;> rfl), trivial⟩, ⟨rfl, trivial⟩⟩
  ·skip
   refine (Qy)<|(Qf 5)<|(Qy)<|(QV 5 0)<|(Qy)<|(QC hvt)<|(Qy)<|(QG)<|(QF)<|Qn ?_
   exact ⟨⟨rfl, rfl, rfl, trivial⟩, ⟨z5 (by rw [hb0] <;> rfl), trivial⟩, ⟨rfl, trivial⟩⟩
 ·simp only [zo]
  refine zh rfl ?_ ?_
  ·intro hc0
   refine (j4) ?_
   exact ⟨_, rfl, yt⟩
  ·intro hc0
   exact absurd hc0 (by rcases h with h | h; (rw [decide_eq_true (by omega)]; simp); (rw [decide_eq_true (p := (5 : Int) < _) (by omega)]; simp))
theorem zhO (base : LN) (late : Bool) (vp v0 v1 vt : Value) (tvs : List Value) (p0 p1 : List Int) (ts : List (List Int)) (hvt : Shows G 1 vt tvs.length tvs) (hLI : zm G (v0 :: v1 :: tvs) (p0 :: p1 :: ts)) (h1 : 1 ≤ ts.length) (h5 : ts.length ≤ 5) (f : Nat) (hf : zZ [p0, p1] = f) (hf0 : f ≠ 0) : Fp G 51 #[.agg (cells 6 [pV (sv base), pV (.bool late), pV vp, pV v0, pV v1, pV vt])] (ii f) := by
 have hT := zr (zr hLI)
 have htl : tvs.length = ts.length := hT.1
 refine Qf1 Tryz.func51 ?_
 refine (g4)<|(Qh 0) fun r1=>(g3)<|(gs) ?_
 refine yd [(0, _), (1, _), (2, _)] [(14, .bool (decide ((tvs.length : Int) < 1) || decide ((5 : Int) < (tvs.length : Int))))] [(0, some _)] ⟨rfl, rfl, rfl, trivial⟩ ⟨rfl, trivial⟩ ?_ ?_
 ·skip
  refine (jd)<|(QC hvt)<|(Ql)<|(Qm) ?_
  refine zn (fun hb0 => ?_) (fun hb0 => ?_)
  ·skip
   refine (gg)<|(QT)<|Qn ?_
   exact ⟨⟨rfl, rfl, rfl, trivial⟩, ⟨z5 (by rw [hb0] <;> rfl), trivial⟩, ⟨rfl, trivial⟩⟩
  ·skip
   refine (Qy)<|(Qf 5)<|(Qy)<|(QV 5 0)<|(Qy)<|(QC hvt)<|(Qy)<|(QG)<|(QF)<|Qn ?_
   exact ⟨⟨rfl, rfl, rfl, trivial⟩, ⟨z5 (by rw [hb0] <;> rfl), trivial⟩, ⟨rfl, trivial⟩⟩
 ·simp only [zo]
  refine zh rfl ?_ ?_
  ·intro hc0
   exact absurd hc0 (by rw [decide_eq_false (by omega), decide_eq_false (by omega)]; decide)
  ·intro hc0
   refine Qk<|(gs)<|(Qf 3)<|(Qsa 0 2) ?_
   refine zi rfl rfl (Un 89) (zf (ym 0 rfl ⟨[], trivial⟩) za) (XR (G := [(⟨r1, (cells 6 [pV (sv base), pV (.bool late), pV vp, pV v0, pV v1, pV vt]), 29⟩ : Blk)] ++ G) _ [v0, v1] [p0, p1] ((z3R (r := r1) (t := 29)).mono (fun x hx => List.mem_append_left _ hx)) (yI (z84 hLI) (fun x hx => List.mem_append_right _ hx)) (by simp)) rfl rfl ?_
   refine (Ai hf)<|(jr)<|(Qat)<|(gu)<|(g6)<|(gt) ?_
   exact ⟨_, rfl, yt⟩
theorem z9N (base : LN) (late : Bool) (vp v0 v1 vt : Value) (tvs : List Value) (p0 p1 : List Int) (ts : List (List Int)) (hvt : Shows G 1 vt tvs.length tvs) (hLI : zm G (v0 :: v1 :: tvs) (p0 :: p1 :: ts)) (h1 : 1 ≤ ts.length) (h5 : ts.length ≤ 5) (hp : zZ [p0, p1] = 0) (f : Nat) (hf : zZ ts = f) (hf0 : f ≠ 0) : Fp G 51 #[.agg (cells 6 [pV (sv base), pV (.bool late), pV vp, pV v0, pV v1, pV vt])] (ii f) := by
 have hT := zr (zr hLI)
 have htl : tvs.length = ts.length := hT.1
 refine Qf1 Tryz.func51 ?_
 refine (g4)<|(Qh 0) fun r1=>(g3)<|(gs) ?_
 refine yd [(0, _), (1, _), (2, _)] [(14, .bool (decide ((tvs.length : Int) < 1) || decide ((5 : Int) < (tvs.length : Int))))] [(0, some _)] ⟨rfl, rfl, rfl, trivial⟩ ⟨rfl, trivial⟩ ?_ ?_
 ·skip
  refine (jd)<|(QC hvt)<|(Ql)<|(Qm) ?_
  refine zn (fun hb0 => ?_) (fun hb0 => ?_)
  ·skip
   refine (gg)<|(QT)<|Qn ?_
   exact ⟨⟨rfl, rfl, rfl, trivial⟩, ⟨z5 (by rw [hb0] <;> rfl), trivial⟩, ⟨rfl, trivial⟩⟩
  ·skip
   refine (Qy)<|(Qf 5)<|(Qy)<|(QV 5 0)<|(Qy)<|(QC hvt)<|(Qy)<|(QG)<|(QF)<|Qn ?_
   exact ⟨⟨rfl, rfl, rfl, trivial⟩, ⟨z5 (by rw [hb0] <;> rfl), trivial⟩, ⟨rfl, trivial⟩⟩
 ·simp only [zo]
  refine zh rfl ?_ ?_
  ·intro hc0
   exact absurd hc0 (by rw [decide_eq_false (by omega), decide_eq_false (by omega)]; decide)
  ·intro hc0
   refine Qk<|(gs)<|(Qf 3)<|(Qsa 0 2) ?_
   refine zi rfl rfl (Un 89) (zf (ym 0 rfl ⟨[], trivial⟩) za) (XR (G := [(⟨r1, (cells 6 [pV (sv base), pV (.bool late), pV vp, pV v0, pV v1, pV vt]), 29⟩ : Blk)] ++ G) _ [v0, v1] [p0, p1] ((z3R (r := r1) (t := 29)).mono (fun x hx => List.mem_append_left _ hx)) (yI (z84 hLI) (fun x hx => List.mem_append_right _ hx)) (by simp)) rfl rfl ?_
   refine (Ai hp)<|(jr) ?_
   refine (Ab (decide_eq_false (by decide)))<|(gn)<|(gs)<|(jd) ?_
   refine (Ca (XR vt tvs ts hvt hT (by omega))) ?_
   refine (Ai hf)<|(jr)<|(Qat)<|(gu)<|(g6)<|(gt) ?_
   exact ⟨_, rfl, yt⟩
theorem zcu (base : LN) (late : Bool) (vp v0 v1 vt : Value) (tvs : List Value) (p0 p1 : List Int) (ts : List (List Int)) (hvt : Shows G 1 vt tvs.length tvs) (hLI : zm G (v0 :: v1 :: tvs) (p0 :: p1 :: ts)) (h1 : 1 ≤ ts.length) (h5 : ts.length ≤ 5) (hp : zZ [p0, p1] = 0) (hf : zZ ts = 0) (f : Nat) (hf3 : f = 0 ∨ f = 3) (hF : Fp G 90 #[.agg (cells 6 [pV (sv base), pV (.bool late), pV vp, pV v0, pV v1, pV vt])] (.bool (decide (f = 0)))) : Fp G 51 #[.agg (cells 6 [pV (sv base), pV (.bool late), pV vp, pV v0, pV v1, pV vt])] (ii f) := by
 have hT := zr (zr hLI)
 have htl : tvs.length = ts.length := hT.1
 refine Qf1 Tryz.func51 ?_
 refine (g4)<|(Qh 0) fun r1=>(g3)<|(gs) ?_
 refine yd [(0, _), (1, _), (2, _)] [(14, .bool (decide ((tvs.length : Int) < 1) || decide ((5 : Int) < (tvs.length : Int))))] [(0, some _)] ⟨rfl, rfl, rfl, trivial⟩ ⟨rfl, trivial⟩ ?_ ?_
 ·skip
  refine (jd)<|(QC hvt)<|(Ql)<|(Qm) ?_
  refine zn (fun hb0 => ?_) (fun hb0 => ?_)
  ·skip
   refine (gg)<|(QT)<|Qn ?_
   exact ⟨⟨rfl, rfl, rfl, trivial⟩, ⟨z5 (by rw [hb0] <;> rfl), trivial⟩, ⟨rfl, trivial⟩⟩
  ·skip
   refine (Qy)<|(Qf 5)<|(Qy)<|(QV 5 0)<|(Qy)<|(QC hvt)<|(Qy)<|(QG)<|(QF)<|Qn ?_
   exact ⟨⟨rfl, rfl, rfl, trivial⟩, ⟨z5 (by rw [hb0] <;> rfl), trivial⟩, ⟨rfl, trivial⟩⟩
 ·simp only [zo]
  refine zh rfl ?_ ?_
  ·intro hc0
   exact absurd hc0 (by rw [decide_eq_false (by omega), decide_eq_false (by omega)]; decide)
  ·intro hc0
   refine Qk<|(gs)<|(Qf 3)<|(Qsa 0 2) ?_
   refine zi rfl rfl (Un 89) (zf (ym 0 rfl ⟨[], trivial⟩) za) (XR (G := [(⟨r1, (cells 6 [pV (sv base), pV (.bool late), pV vp, pV v0, pV v1, pV vt]), 29⟩ : Blk)] ++ G) _ [v0, v1] [p0, p1] ((z3R (r := r1) (t := 29)).mono (fun x hx => List.mem_append_left _ hx)) (yI (z84 hLI) (fun x hx => List.mem_append_right _ hx)) (by simp)) rfl rfl ?_
   refine (Ai hp)<|(jr) ?_
   refine (Ab (decide_eq_false (by decide)))<|(gn)<|(gs)<|(jd) ?_
   refine (Ca (XR vt tvs ts hvt hT (by omega))) ?_
   refine (Ai hf)<|(jr) ?_
   refine (Ab (decide_eq_false (by decide)))<|(gn)<|Qs<|(gc) ?_
   refine (Ca hF)<|(Q0)<|Qn ?_
   refine zh rfl ?_ ?_
   ·intro hc3
    obtain rfl : f = 3 := by have : ¬ f = 0 := (by simpa using hc3); omega
    refine (j4) ?_
    exact ⟨_, rfl, yt⟩
   ·intro hc3
    obtain rfl : f = 0 := by simpa using hc3
    refine Qk<|(j4) ?_
    exact ⟨_, rfl, yt⟩
theorem zii {G : Mem} (base : LN) (late : Bool) (vp v0 v1 vt : Value) (tvs : List Value) (p0 p1 : List Int) (ts : List (List Int)) (hvt : Shows G 1 vt tvs.length tvs) (hLI : zm G (v0 :: v1 :: tvs) (p0 :: p1 :: ts)) : Fp G 51 #[.agg (cells 6 [pV (sv base), pV (.bool late), pV vp, pV v0, pV v1, pV vt])] (ii (zN late p0 p1 ts)) := by
 by_cases h0 : ts.length = 0 ∨ 5 < ts.length
 ·rw [zN, if_pos h0]; exact zf2 base late vp v0 v1 vt tvs p0 p1 ts hvt hLI h0
 by_cases hp : zZ [p0, p1] = 0
 ·by_cases hf : zZ ts = 0
  ·have h00 : zZ (p0 :: p1 :: ts) = 0 := by rw [ZM, if_pos hp, hf]
   have hz := wV h00
   have e0 := ZB (hz p0 (by simp)).2
   have e1 := ZB (hz p1 (by simp)).2
   have et : ts = (ts.map fun t => t.map Int.toNat).map ci := by
    rw [List.map_map]
    conv => lhs; rw [← List.map_id ts]
    exact List.map_congr_left fun t ht => ZB (hz t (by simp [ht])).2
   rw [zN, if_neg h0, if_pos h00]
   refine zcu base late vp v0 v1 vt tvs p0 p1 ts hvt hLI (by omega) (by omega) hp hf _ (by unfold z1t; split <;> simp) ?_
   have hall : zZ ((p0.map Int.toNat :: p1.map Int.toNat :: (ts.map fun t => t.map Int.toNat)).map ci) = 0 := by
    rw [List.map_cons, List.map_cons, ← e0, ← e1, ← et]; exact h00
   exact zbS base late vp v0 v1 vt tvs (p0.map Int.toNat) (p1.map Int.toNat) (ts.map fun t => t.map Int.toNat) hvt (by rw [← e0, ← e1, ← et]; exact hLI) (z5b hall) (by rw [List.length_map]; omega)
  ·rw [zN, if_neg h0, ZM, if_pos hp, if_neg hf]
   exact z9N base late vp v0 v1 vt tvs p0 p1 ts hvt hLI (by omega) (by omega) hp _ rfl hf
 ·rw [zN, if_neg h0, ZM, if_neg hp, if_neg hp]
  exact zhO base late vp v0 v1 vt tvs p0 p1 ts hvt hLI (by omega) (by omega) _ rfl hp
theorem ZU (b : LN) (l : Bool) (vp v0 v1 vt : Value) (fi : Bool) (tn : Int) (dd : Bool) (y : SY) (r : RS) (ow : NN) (vk : Value) (us : Int) (f0 : Bool) (p0 p1 : List Int) (tvs : List Value) (ts : List (List Int)) (hvt : Shows G 1 vt tvs.length tvs) (hLI : zm G (v0 :: v1 :: tvs) (p0 :: p1 :: ts)) : Fp G 28 #[.agg (shC b l vp v0 v1 vt fi tn dd y ow r vk us), .bool f0] (.bool (YZ dd tn tvs.length us f0 l (zN l p0 p1 ts))) := by
 refine Qf1 Tryz.func28 ?_
 refine (g4)<|(Qh 0) fun r1=>(g3)<|(gs) ?_
 refine yd [(0, _), (1, _), (2, _), (4, _)] [(26, .bool (dd || (decide (us < 0) || (decide (tn < 0) || decide ((tvs.length : Int) ≤ tn)))))] [(0, some _)] ⟨rfl, rfl, rfl, rfl, trivial⟩ ⟨rfl, trivial⟩ ?_ ?_
 ·skip
  refine (Qf 8)<|(QV 8 0)<|(Qm) ?_
  refine zn (b := dd) (fun hb0 => ?_) (fun hb0 => ?_)
  ·skip
   refine (gx)<|(QT)<|(Qm)<|(gx)<|(QT)<|(j6)<|(gx)<|(QT)<|Qn ?_
   exact ⟨⟨rfl, rfl, rfl, rfl, trivial⟩, ⟨z5 (by rw [hb0] <;> rfl), trivial⟩, ⟨rfl, trivial⟩⟩
  ·skip
   refine (Qy)<|(Qf 239)<|(Qy)<|(QV 22 0)<|(Qy)<|(Ql)<|(QF)<|(Qm) ?_
   refine zn (b := decide (us < 0)) (fun hb1 => ?_) (fun hb1 => ?_)
   ·skip
    refine (gx)<|(QT)<|(j6)<|(gx)<|(QT)<|Qn ?_
    exact ⟨⟨rfl, rfl, rfl, rfl, trivial⟩, ⟨z5 (by rw [hb0, hb1] <;> rfl), trivial⟩, ⟨rfl, trivial⟩⟩
   ·skip
    refine (Qy)<|(Qf 7)<|(Qy)<|(QV 7 0)<|(Qy)<|(Ql)<|(QF)<|(Qm) ?_
    refine zn (b := decide (tn < 0)) (fun hb2 => ?_) (fun hb2 => ?_)
    ·skip
     refine (gg)<|(gx)<|(QT)<|Qn ?_
     exact ⟨⟨rfl, rfl, rfl, rfl, trivial⟩, ⟨z5 (by rw [hb0, hb1, hb2] <;> rfl), trivial⟩, ⟨rfl, trivial⟩⟩
    ·skip
     refine (Qy)<|(Qf 7)<|(Qy)<|(QV 7 0)<|(Qy)<|(Qf 0)<|(Qy)<|(Qf 5)<|(Qy)<|(QV 5 0)<|(Qy)<|(QC hvt)<|(Qy)<|(QE)<|(QF)<|Qn ?_
     exact ⟨⟨rfl, rfl, rfl, rfl, trivial⟩, ⟨z5 (by rw [hb0, hb1, hb2] <;> rfl), trivial⟩, ⟨rfl, trivial⟩⟩
 ·simp only [zo]
  refine zh rfl ?_ ?_
  ·intro hc0
   rw [show YZ dd tn tvs.length us f0 l (zN l p0 p1 ts) = false from if_pos (zkk hc0)]
   refine (j4) ?_
   exact ⟨_, rfl, yt⟩
  ·intro hc0
   have hg := zli hc0
   obtain ⟨tq, rfl⟩ : ∃ tq : Nat, tn = (tq : Int) := ⟨tn.toNat, by omega⟩
   rw [show YZ dd (tq : Int) tvs.length us f0 l (zN l p0 p1 ts) = _ from if_neg hg]
   rw [Int.toNat_natCast]
   refine Qk<|(g4)<|(Qf 7)<|(QV 7 0)<|(Q4 2)<|(Qc)<|(j9) ?_
   refine yd [(0, _), (1, _), (2, _), (5, _), (26, _), (27, _), (28, _), (29, _), (30, _)] [(4, .bool ((f0 == (decide (((tq % 2 : Nat) : Int) = 0) != l)) && decide (((zN l p0 p1 ts : Nat) : Int) = 0))), (43, .bool ((f0 == (decide (((tq % 2 : Nat) : Int) = 0) != l)) && decide (((zN l p0 p1 ts : Nat) : Int) = 0)))] [(0, some _)] ⟨rfl, rfl, rfl, rfl, rfl, rfl, rfl, rfl, rfl, trivial⟩ ⟨rfl, trivial⟩ ?_ ?_
   ·skip
    refine (gb)<|(Qf 0)<|(Qf 1)<|(QV 1 0) ?_
    refine zl4 (Uu 4) rfl rfl rfl ?_
    refine XI (Uu 4) rfl rfl rfl ?_
    refine (Qm) ?_
    refine zn (b := (f0 == (decide (((tq % 2 : Nat) : Int) = 0) != l))) (fun hb3 => ?_) (fun hb3 => ?_)
    ·skip
     refine (Qy)<|(Qf 0)<|(Qy)<|(QlK 0 0 6)<|(Qy) ?_
     refine (Ca (zii b l vp v0 v1 vt tvs p0 p1 ts hvt hLI))<|(Qy)<|(Qc)<|(QT)<|(g3) ?_
     exact ⟨⟨rfl, rfl, rfl, rfl, rfl, rfl, rfl, rfl, rfl, trivial⟩, ⟨z5 (by rw [hb3] <;> rfl), z5 (by rw [hb3] <;> rfl), trivial⟩, ⟨rfl, trivial⟩⟩
    ·skip
     refine (gg)<|(QF)<|(g3) ?_
     exact ⟨⟨rfl, rfl, rfl, rfl, rfl, rfl, rfl, rfl, rfl, trivial⟩, ⟨z5 (by rw [hb3] <;> rfl), z5 (by rw [hb3] <;> rfl), trivial⟩, ⟨rfl, trivial⟩⟩
   ·simp only [zo]
    refine Qr ?_
    exact ⟨_, rfl, yt⟩
theorem zdd (b : LN) (l : Bool) (vp v0 v1 vt : Value) (fi : Bool) (tn : Int) (dd : Bool) (y : SY) (r : RS) (ow : NN) (vk : Value) (us : Int) (y2 : SY) (r2v : RS) (u2 : Int) (vb : Value) (e : Nat) (h1 : xl vp v0 v1 vt vk) (he : e ≠ 0) : Fp G 30 #[.agg (shC b l vp v0 v1 vt fi tn dd y ow r vk us), .agg (shC b l vp v0 v1 vt fi tn dd y2 ow r2v vk u2), vb, ii e] (.tuple #[.agg (shC b l vp v0 v1 vt fi tn true y ow r vk us), y4, ii e]) := by
 refine Qf3 Tryz.func30 ?_
 refine (g4)<|(Qh 0) fun r1=>(Qh 1) fun r2=>(QH 2) fun r3=>(j3)<|(QN)<|Qn ?_
 refine zh rfl ?_ ?_
 ·intro hc0
  refine (g4)<|(Qf 8)<|(QtV 0 8)<|Qn<|(gc)<|(Qm) ?_
  refine z4 (i := 2) (Uz 37) rfl rfl (z3 _ _) (ze h1) rfl z7 (.inl rfl) ?_
  refine (gy) ?_
  exact ⟨_, _, _, rfl, yb 2, yt, yt⟩
 ·intro hc0
  exact absurd (of_decide_eq_false hc0) (by omega)
theorem zi6 (b : LN) (l : Bool) (vp v0 v1 vt : Value) (fi : Bool) (tq : Nat) (dd : Bool) (y : SY) (r : RS) (ow : NN) (vk : Value) (us : Int) (y2 : SY) (r2v : RS) (u2 : Int) (vb : Value) (e : Nat) (h1 : xl vp v0 v1 vt vk) (he : e = 0) (htz : tq < 1000000) : Fp G 30 #[.agg (shC b l vp v0 v1 vt fi ((tq : Nat) : Int) dd y ow r vk us), .agg (shC b l vp v0 v1 vt fi ((tq : Nat) : Int) dd y2 ow r2v vk u2), vb, ii e] (.tuple #[.agg (shC b l vp v0 v1 vt fi ((tq + 1 : Nat) : Int) dd y2 ow r2v vk u2), vb, ii 0]) := by
 refine Qf3 Tryz.func30 ?_
 refine (g4)<|(Qh 0) fun r1=>(Qh 1) fun r2=>(QH 2) fun r3=>(j3)<|(QN)<|Qn ?_
 refine zh rfl ?_ ?_
 ·intro hc0
  exact absurd (of_decide_eq_true hc0) (by omega)
 ·intro hc0
  refine Qk<|(g4)<|(Qf 7)<|(QV 7 1)<|(Q2 1)<|(Qf 7)<|(QtV 1 7) ?_
  refine ye (c' := shC b l vp v0 v1 vt fi ((tq + 1 : Nat) : Int) dd y2 ow r2v vk u2) rfl ?_
  refine (gl)<|(QD 1)<|(Qm) ?_
  refine z4 (i := 2) (Uz 37) rfl rfl (z3 _ _) (ze h1) rfl z7 (.inl rfl) ?_
  refine (gy) ?_
  exact ⟨_, _, _, rfl, yb 2, yt, yt⟩
set_option maxRecDepth 20000 in
theorem z8b (b : LN) (l : Bool) (vp v0 v1 vt : Value) (fi : Bool) (tn : Int) (dd : Bool) (y : SY) (r : RS) (ow : NN) (vk : Value) (us : Int) (ps : List (NN)) (qs p0 p1 : List Int) (tvs : List Value) (ts : List (List Int)) (hk : Shows G 32 vk ps.length (psC ps)) (hvp : Shows G 1 vp qs.length (qs.map iv)) (hvt : Shows G 1 vt tvs.length tvs) (hLI : zm G (v0 :: v1 :: tvs) (p0 :: p1 :: ts)) (zk : ps.length * 32 ≤ 140737488355328) (zp : qs.length * 8 ≤ 140737488355328) (zt : tvs.length * 24 ≤ 140737488355328) (zl : ∀ q ∈ p0 :: p1 :: ts, q.length * 8 ≤ 140737488355328) (vx : Value) (hm : YZ dd tn ts.length us (!fi) l (zN l p0 p1 ts) = false) : Fq G [] 12 #[.agg (shC b l vp v0 v1 vt fi tn dd y ow r vk us), vx] (fun v l1 nw => l1 = [] ∧ zdP b l qs p0 p1 ts ps fi tn dd y ow r us 9 [] v nw) := by
 refine zih (n := 38) Tryz.func12 rfl rfl (by simp) (wr [.agg (shC b l vp v0 v1 vt fi tn dd y ow r vk us), vx] 0) (yS _) ?_
 refine (g4)<|(Qh 0) fun r1=>(QH 1) fun r2=>(g8)<|Qs<|QR ⟨[], 4, [], none, none⟩<|(QD 0) ?_
 refine xu [(0, _), (1, _)] (by repeat (first | exact zB | exact zA _ | apply zq rfl)) ⟨rfl, rfl, trivial⟩ rfl rfl rfl (Un 27) za (YH b l vp v0 v1 vt fi tn dd y r ow vk us ps qs p0 p1 tvs ts hk hvp hvt hLI zk zp zt zl) (Zs b l qs p0 p1 ts ps fi tn dd y ow r us) rfl rfl fun v1_1 nw1_1 hD1_1 => ?_
 simp only [zu]
 obtain ⟨uP, a0, a1, uT, uK, xs, rfl, sP, sT, sL, sK, h1⟩ := hD1_1
 have hxl : xs.length = ts.length := (zr (zr sL)).1
 refine z4 (i := 0) (Uz 37) rfl rfl (z3 _ _) (ze h1) rfl z7 (.inl rfl) ?_
 refine Qn<|Qs<|(gc)<|(Qf 6)<|(QV 6 0)<|(Q0) ?_
 refine zi rfl rfl (Un 28) (yF (by repeat (first | exact zB | exact zA _ | apply zq rfl)) rfl) (ZU b l uP a0 a1 uT fi tn dd y r ow uK us (!fi) p0 p1 xs ts sT sL) rfl rfl ?_
 refine z6 (show _ = Value.bool false by rw [hxl, hm]) ?_
 refine (Q0)<|(gu)<|(gc) ?_
 refine z4 (i := 1) (Uz 37) rfl rfl (z3 _ _) (ze h1) rfl z7 (.inl rfl) ?_
 refine (gy) ?_
 exact ⟨_, _, _, _, _, _, ([] ++ nw1_1), rfl, yb 1, yt, yt, ⟨_, y4, rfl, ⟨uP, a0, a1, uT, uK, xs, rfl, sP, sT, sL, sK, h1⟩, xa _ 1⟩, (by repeat (first | exact zB | exact zA _ | apply zq rfl))⟩
set_option maxRecDepth 20000 in
theorem zaI (b : LN) (l : Bool) (vp v0 v1 vt : Value) (fi : Bool) (tn : Int) (dd : Bool) (y : SY) (r : RS) (ow : NN) (vk : Value) (us : Int) (ps : List (NN)) (qs p0 p1 : List Int) (tvs : List Value) (ts : List (List Int)) (hk : Shows G 32 vk ps.length (psC ps)) (hvp : Shows G 1 vp qs.length (qs.map iv)) (hvt : Shows G 1 vt tvs.length tvs) (hLI : zm G (v0 :: v1 :: tvs) (p0 :: p1 :: ts)) (zk : ps.length * 32 ≤ 140737488355328) (zp : qs.length * 8 ≤ 140737488355328) (zt : tvs.length * 24 ≤ 140737488355328) (zl : ∀ q ∈ p0 :: p1 :: ts, q.length * 8 ≤ 140737488355328) (vx : Value) (tx : LN) (hvt9 : Sh G vx tx) (htb : By tx) (hm : YZ dd tn ts.length us (!fi) l (zN l p0 p1 ts) = true) (hs : 800 < tx.length) : Fq G [] 12 #[.agg (shC b l vp v0 v1 vt fi tn dd y ow r vk us), vx] (fun v l1 nw => l1 = [] ∧ zdP b l qs p0 p1 ts ps fi tn dd y ow r us 1 [] v nw) := by
 have _u1 := htb
 refine zih (n := 38) Tryz.func12 rfl rfl (by simp) (wr [.agg (shC b l vp v0 v1 vt fi tn dd y ow r vk us), vx] 0) (yS _) ?_
 refine (g4)<|(Qh 0) fun r1=>(QH 1) fun r2=>(g8)<|Qs<|QR ⟨[], 4, [], none, none⟩<|(QD 0) ?_
 refine xu [(0, _), (1, _)] (by repeat (first | exact zB | exact zA _ | apply zq rfl)) ⟨rfl, rfl, trivial⟩ rfl rfl rfl (Un 27) za (YH b l vp v0 v1 vt fi tn dd y r ow vk us ps qs p0 p1 tvs ts hk hvp hvt hLI zk zp zt zl) (Zs b l qs p0 p1 ts ps fi tn dd y ow r us) rfl rfl fun v1_1 nw1_1 hD1_1 => ?_
 simp only [zu]
 obtain ⟨uP, a0, a1, uT, uK, xs, rfl, sP, sT, sL, sK, h1⟩ := hD1_1
 have hxl : xs.length = ts.length := (zr (zr sL)).1
 refine z4 (i := 0) (Uz 37) rfl rfl (z3 _ _) (ze h1) rfl z7 (.inl rfl) ?_
 refine Qn<|Qs<|(gc)<|(Qf 6)<|(QV 6 0)<|(Q0) ?_
 refine zi rfl rfl (Un 28) (yF (by repeat (first | exact zB | exact zA _ | apply zq rfl)) rfl) (ZU b l uP a0 a1 uT fi tn dd y r ow uK us (!fi) p0 p1 xs ts sT sL) rfl rfl ?_
 refine z6 (show _ = Value.bool true by rw [hxl, hm]) ?_
 refine (Q0)<|(gn)<|(ge)<|(QC hvt9)<|(QG)<|Qn ?_
 refine zh rfl ?_ ?_
 ·intro hc1
  refine (gc) ?_
  refine z4 (i := 1) (Uz 37) rfl rfl (z3 _ _) (ze h1) rfl z7 (.inl rfl) ?_
  refine (gy) ?_
  exact ⟨_, _, _, _, _, _, ([] ++ nw1_1), rfl, yb 1, yt, yt, ⟨_, y4, rfl, ⟨uP, a0, a1, uT, uK, xs, rfl, sP, sT, sL, sK, h1⟩, xa _ 1⟩, (by repeat (first | exact zB | exact zA _ | apply zq rfl))⟩
 ·intro hc1
  exact absurd (of_decide_eq_false hc1) (by omega)
set_option maxRecDepth 20000 in
theorem zhP (b : LN) (l : Bool) (vp v0 v1 vt : Value) (fi : Bool) (tq : Nat) (dd : Bool) (y : SY) (r : RS) (ow : NN) (vk : Value) (us : Nat) (ps : List (NN)) (qs p0 p1 : List Int) (tvs : List Value) (ts : List (List Int)) (hk : Shows G 32 vk ps.length (psC ps)) (hvp : Shows G 1 vp qs.length (qs.map iv)) (hvt : Shows G 1 vt tvs.length tvs) (hLI : zm G (v0 :: v1 :: tvs) (p0 :: p1 :: ts)) (zk : ps.length * 32 ≤ 140737488355328) (zp : qs.length * 8 ≤ 140737488355328) (zt : tvs.length * 24 ≤ 140737488355328) (zl : ∀ q ∈ p0 :: p1 :: ts, q.length * 8 ≤ 140737488355328) (hO : DOR ∈ G) (hp : okP ps) (hy : okY y) (hr : okR r) (ho : B32 ow) (vx : Value) (tx : LN) (hvt9 : Sh G vx tx) (htb : By tx) (q : LN) (hqe : ts.getD tq [] = ci q) (hq7 : ∀ x ∈ q, 1 ≤ x ∧ x ≤ 7) (hq6 : q.length ≤ 6) (htl : tq < ts.length) (htz : tq < 1000000) (hm : YZ dd ((tq : Nat) : Int) ts.length ((us : Nat) : Int) (!fi) l (zN l p0 p1 ts) = true) (hlt : tx.length ≤ 800) (w : Nat × SS × LN) (hw : vj fi ow ps q (y, r, us) tx = w) (h0 : w.1 = 0) : Fq G [] 12 #[.agg (shC b l vp v0 v1 vt fi ((tq : Nat) : Int) dd y ow r vk ((us : Nat) : Int)), vx] (fun v l1 nw => l1 = [] ∧ zdP b l qs p0 p1 ts ps fi ((tq + 1 : Nat) : Int) dd w.2.1.1 ow w.2.1.2.1 ((w.2.1.2.2 : Nat) : Int) 0 w.2.2 v nw) := by
 have hwl : w.2.2.length ≤ 1000 := by rw [← hw]; have := V7 (fi := fi) (ow := ow) (ps := ps) q (y, r, us) tx; omega
 have _u1 := htz
 refine zih (n := 38) Tryz.func12 rfl rfl (by simp) (wr [.agg (shC b l vp v0 v1 vt fi ((tq : Nat) : Int) dd y ow r vk ((us : Nat) : Int)), vx] 0) (yS _) ?_
 refine (g4)<|(Qh 0) fun r1=>(QH 1) fun r2=>(g8)<|Qs<|QR ⟨[], 4, [], none, none⟩<|(QD 0) ?_
 refine xu [(0, _), (1, _)] (by repeat (first | exact zB | exact zA _ | apply zq rfl)) ⟨rfl, rfl, trivial⟩ rfl rfl rfl (Un 27) za (YH b l vp v0 v1 vt fi ((tq : Nat) : Int) dd y r ow vk ((us : Nat) : Int) ps qs p0 p1 tvs ts hk hvp hvt hLI zk zp zt zl) (Zs b l qs p0 p1 ts ps fi ((tq : Nat) : Int) dd y ow r ((us : Nat) : Int)) rfl rfl fun v1_1 nw1_1 hD1_1 => ?_
 simp only [zu]
 obtain ⟨uP, a0, a1, uT, uK, xs, rfl, sP, sT, sL, sK, h1⟩ := hD1_1
 have hxl : xs.length = ts.length := (zr (zr sL)).1
 refine z4 (i := 0) (Uz 37) rfl rfl (z3 _ _) (ze h1) rfl z7 (.inl rfl) ?_
 refine Qn<|Qs<|(gc)<|(Qf 6)<|(QV 6 0)<|(Q0) ?_
 refine zi rfl rfl (Un 28) (yF (by repeat (first | exact zB | exact zA _ | apply zq rfl)) rfl) (ZU b l uP a0 a1 uT fi ((tq : Nat) : Int) dd y r ow uK ((us : Nat) : Int) (!fi) p0 p1 xs ts sT sL) rfl rfl ?_
 refine z6 (show _ = Value.bool true by rw [hxl, hm]) ?_
 refine (Q0)<|(gn)<|(ge)<|(QC hvt9)<|(QG)<|Qn ?_
 refine zh rfl ?_ ?_
 ·intro hc1
  exact absurd (of_decide_eq_true hc1) (by omega)
 ·intro hc1
  refine Qk<|Qs<|QR ⟨[], 4, [], none, none⟩<|(QD 0)<|(Qm) ?_
  refine zI 2 (fun v => .tuple #[.agg (shC b l uP a0 a1 uT fi ((tq : Nat) : Int) dd w.2.1.1 ow w.2.1.2.1 uK ((w.2.1.2.2 : Nat) : Int)), v, ii w.1]) rfl rfl (Un 36) (zf za (yF (by repeat (first | exact zB | exact zA _ | apply zq rfl)) rfl)) (z4x (G := G ++ nw1_1) (List.mem_append_left _ hO) b l uP a0 a1 uT fi tq dd y r ow uK us ps (sK.mono (fun x hx => List.mem_append_right _ hx)) hp h1 hy hr ho q xs (sT.mono (fun x hx => List.mem_append_right _ hx)) (by omega) ((z42 (zr (zr sL)) htl hqe).mono (fun x hx => List.mem_append_right _ hx)) hq7 hq6 vx tx (hvt9.mono (fun x hx => List.mem_append_left _ hx)) htb (by omega) w hw) (by simp only [maxLen]; omega) (by rw [List.length_map, Nat.mul_one]) rfl rfl fun v3_2 oz3_2 ho3_2 => ?_
  refine (jk)<|(QH 3) fun r4=>?_
  refine z4 (i := 3) (Uz 37) rfl rfl (z3 _ _) (ze h1) rfl z7 (.inl rfl) ?_
  refine (g8)<|(gc)<|(QD 3)<|(gb) ?_
  refine (Ca (zi6 b l uP a0 a1 uT fi tq dd y r ow uK ((us : Nat) : Int) w.2.1.1 w.2.1.2.1 ((w.2.1.2.2 : Nat) : Int) _ w.1 h1 h0 htz)) ?_
  refine z5h 2 [(0, _), (1, _), (3, _)] rfl rfl (by repeat (first | exact zB | exact zA _ | apply zq rfl)) ⟨rfl, rfl, rfl, trivial⟩ rfl rfl ?_
  simp only [zu]
  refine (ga)<|(Qx) ?_
  refine z4 (i := 1) (Uz 37) rfl rfl (z3 _ _) (ze h1) rfl z7 (.inl rfl) ?_
  refine (gy) ?_
  exact ⟨_, _, _, _, _, _, (([] ++ nw1_1) ++ oz3_2.toList), rfl, yb 1, yt, yt, ⟨_, _, rfl, z2Q ⟨uP, a0, a1, uT, uK, xs, rfl, sP, sT, sL, sK, h1⟩ (fun x hx => List.mem_append_left _ hx), ho3_2.shows.mono (fun x hx => List.mem_append_right _ hx)⟩, (by repeat (first | exact zB | exact zA _ | apply zq rfl))⟩
set_option maxRecDepth 20000 in
theorem zeE (b : LN) (l : Bool) (vp v0 v1 vt : Value) (fi : Bool) (tq : Nat) (dd : Bool) (y : SY) (r : RS) (ow : NN) (vk : Value) (us : Nat) (ps : List (NN)) (qs p0 p1 : List Int) (tvs : List Value) (ts : List (List Int)) (hk : Shows G 32 vk ps.length (psC ps)) (hvp : Shows G 1 vp qs.length (qs.map iv)) (hvt : Shows G 1 vt tvs.length tvs) (hLI : zm G (v0 :: v1 :: tvs) (p0 :: p1 :: ts)) (zk : ps.length * 32 ≤ 140737488355328) (zp : qs.length * 8 ≤ 140737488355328) (zt : tvs.length * 24 ≤ 140737488355328) (zl : ∀ q ∈ p0 :: p1 :: ts, q.length * 8 ≤ 140737488355328) (hO : DOR ∈ G) (hp : okP ps) (hy : okY y) (hr : okR r) (ho : B32 ow) (vx : Value) (tx : LN) (hvt9 : Sh G vx tx) (htb : By tx) (q : LN) (hqe : ts.getD tq [] = ci q) (hq7 : ∀ x ∈ q, 1 ≤ x ∧ x ≤ 7) (hq6 : q.length ≤ 6) (htl : tq < ts.length) (htz : tq < 1000000) (hm : YZ dd ((tq : Nat) : Int) ts.length ((us : Nat) : Int) (!fi) l (zN l p0 p1 ts) = true) (hlt : tx.length ≤ 800) (w : Nat × SS × LN) (hw : vj fi ow ps q (y, r, us) tx = w) (h0 : w.1 ≠ 0) : Fq G [] 12 #[.agg (shC b l vp v0 v1 vt fi ((tq : Nat) : Int) dd y ow r vk ((us : Nat) : Int)), vx] (fun v l1 nw => l1 = [] ∧ zdP b l qs p0 p1 ts ps fi ((tq : Nat) : Int) true y ow r ((us : Nat) : Int) w.1 [] v nw) := by
 have hwl : w.2.2.length ≤ 1000 := by rw [← hw]; have := V7 (fi := fi) (ow := ow) (ps := ps) q (y, r, us) tx; omega
 have _u1 := htz
 refine zih (n := 38) Tryz.func12 rfl rfl (by simp) (wr [.agg (shC b l vp v0 v1 vt fi ((tq : Nat) : Int) dd y ow r vk ((us : Nat) : Int)), vx] 0) (yS _) ?_
 refine (g4)<|(Qh 0) fun r1=>(QH 1) fun r2=>(g8)<|Qs<|QR ⟨[], 4, [], none, none⟩<|(QD 0) ?_
 refine xu [(0, _), (1, _)] (by repeat (first | exact zB | exact zA _ | apply zq rfl)) ⟨rfl, rfl, trivial⟩ rfl rfl rfl (Un 27) za (YH b l vp v0 v1 vt fi ((tq : Nat) : Int) dd y r ow vk ((us : Nat) : Int) ps qs p0 p1 tvs ts hk hvp hvt hLI zk zp zt zl) (Zs b l qs p0 p1 ts ps fi ((tq : Nat) : Int) dd y ow r ((us : Nat) : Int)) rfl rfl fun v1_1 nw1_1 hD1_1 => ?_
 simp only [zu]
 obtain ⟨uP, a0, a1, uT, uK, xs, rfl, sP, sT, sL, sK, h1⟩ := hD1_1
 have hxl : xs.length = ts.length := (zr (zr sL)).1
 refine z4 (i := 0) (Uz 37) rfl rfl (z3 _ _) (ze h1) rfl z7 (.inl rfl) ?_
 refine Qn<|Qs<|(gc)<|(Qf 6)<|(QV 6 0)<|(Q0) ?_
 refine zi rfl rfl (Un 28) (yF (by repeat (first | exact zB | exact zA _ | apply zq rfl)) rfl) (ZU b l uP a0 a1 uT fi ((tq : Nat) : Int) dd y r ow uK ((us : Nat) : Int) (!fi) p0 p1 xs ts sT sL) rfl rfl ?_
 refine z6 (show _ = Value.bool true by rw [hxl, hm]) ?_
 refine (Q0)<|(gn)<|(ge)<|(QC hvt9)<|(QG)<|Qn ?_
 refine zh rfl ?_ ?_
 ·intro hc1
  exact absurd (of_decide_eq_true hc1) (by omega)
 ·intro hc1
  refine Qk<|Qs<|QR ⟨[], 4, [], none, none⟩<|(QD 0)<|(Qm) ?_
  refine zI 2 (fun v => .tuple #[.agg (shC b l uP a0 a1 uT fi ((tq : Nat) : Int) dd w.2.1.1 ow w.2.1.2.1 uK ((w.2.1.2.2 : Nat) : Int)), v, ii w.1]) rfl rfl (Un 36) (zf za (yF (by repeat (first | exact zB | exact zA _ | apply zq rfl)) rfl)) (z4x (G := G ++ nw1_1) (List.mem_append_left _ hO) b l uP a0 a1 uT fi tq dd y r ow uK us ps (sK.mono (fun x hx => List.mem_append_right _ hx)) hp h1 hy hr ho q xs (sT.mono (fun x hx => List.mem_append_right _ hx)) (by omega) ((z42 (zr (zr sL)) htl hqe).mono (fun x hx => List.mem_append_right _ hx)) hq7 hq6 vx tx (hvt9.mono (fun x hx => List.mem_append_left _ hx)) htb (by omega) w hw) (by simp only [maxLen]; omega) (by rw [List.length_map, Nat.mul_one]) rfl rfl fun v3_2 oz3_2 ho3_2 => ?_
  refine (jk)<|(QH 3) fun r4=>?_
  refine z4 (i := 3) (Uz 37) rfl rfl (z3 _ _) (ze h1) rfl z7 (.inl rfl) ?_
  refine (g8)<|(gc)<|(QD 3)<|(gb) ?_
  refine (Ca (zdd b l uP a0 a1 uT fi ((tq : Nat) : Int) dd y r ow uK ((us : Nat) : Int) w.2.1.1 w.2.1.2.1 ((w.2.1.2.2 : Nat) : Int) _ w.1 h1 h0))<|(ga)<|(Qx) ?_
  refine z4 (i := 1) (Uz 37) rfl rfl (z3 _ _) (ze h1) rfl z7 (.inl rfl) ?_
  refine (gy) ?_
  exact ⟨_, _, _, _, _, _, ([] ++ nw1_1), rfl, yb 1, yt, yt, ⟨_, y4, rfl, ⟨uP, a0, a1, uT, uK, xs, rfl, sP, sT, sL, sK, h1⟩, xa _ 1⟩, (by repeat (first | exact zB | exact zA _ | apply zq rfl))⟩
theorem wu (v v2 : Value) (l l2 : LN) (hv : Sh G v l) (hv2 : Sh G v2 l2) (hb : By l) (hb2 : By l2) : Fp G 11 #[v, v2] (.bool (decide (l = l2))) := by
 refine Qf1 Tryz.func11 ?_
 refine (gd)<|(g6) ?_
 refine zx hv za (Uu 22) (Uu 5) (Uu 9) rfl rfl rfl ?_
 refine (Qm) ?_
 refine zx hv2 za (Uu 22) (Uu 5) (Uu 9) rfl rfl rfl ?_
 refine z9u rfl rfl rfl hb hb2 ?_
 refine (gt) ?_
 exact ⟨_, rfl, yt⟩
set_option maxRecDepth 20000 in
theorem z1y (b : LN) (l : Bool) (vp v0 v1 vt : Value) (fi : Bool) (tn : Int) (dd : Bool) (y : SY) (r : RS) (ow : NN) (vk : Value) (us : Int) (ps : List (NN)) (qs p0 p1 : List Int) (tvs : List Value) (ts : List (List Int)) (hk : Shows G 32 vk ps.length (psC ps)) (hvp : Shows G 1 vp qs.length (qs.map iv)) (hvt : Shows G 1 vt tvs.length tvs) (hLI : zm G (v0 :: v1 :: tvs) (p0 :: p1 :: ts)) (zk : ps.length * 32 ≤ 140737488355328) (zp : qs.length * 8 ≤ 140737488355328) (zt : tvs.length * 24 ≤ 140737488355328) (zl : ∀ q ∈ p0 :: p1 :: ts, q.length * 8 ≤ 140737488355328) (vx : Value) (h1 : xl vp v0 v1 vt vk) (hb8 : By b) (hz : ts.length ≤ 9223372036854775807 ∧ ∀ l ∈ qs :: p0 :: p1 :: ts, l.length ≤ 9223372036854775807) (hm : YZ dd tn ts.length us (!fi) l (zN l p0 p1 ts) = false) (hbad : ((((dd || decide (tn < 0)) || decide ((tvs.length : Int) ≤ tn)) || decide (us < 0)) || decide (((zN l p0 p1 ts : Nat) : Int) ≠ 0)) = true) : Fp G 5 #[.agg (shC b l vp v0 v1 vt fi tn dd y ow r vk us), vx] (.bool true) := by
 refine Qf1 Tryz.func5 ?_
 refine (g4)<|(Qh 0) fun r1=>(g3)<|Qs<|QR ⟨[], 4, [], none, none⟩<|(QD 0)<|(Qm) ?_
 refine xu [(0, _)] (by repeat (first | exact zB | exact zA _ | apply zq rfl)) ⟨rfl, trivial⟩ rfl rfl rfl (Un 12) za (z8b b l vp v0 v1 vt fi tn dd y r ow vk us ps qs p0 p1 tvs ts hk hvp hvt hLI zk zp zt zl vx hm) (XN b l qs p0 p1 ts ps fi tn dd y ow r us 9 []) rfl rfl fun v1_1 nw1_1 hD1_1 => ?_
 simp only [zu]
 obtain ⟨_, W1, rfl, ⟨P1, A1, B1, T1, K1, l1, rfl, hP1, hT1, hL1, hK1, h11⟩, hW1⟩ := hD1_1
 refine (jk)<|(QH 1) fun r2=>?_
 refine z4 (i := 1) (Uz 37) rfl rfl (z3 _ _) (ze h11) rfl z7 (.inl rfl) ?_
 refine (g8)<|(gc)<|(Qm) ?_
 refine (Ca (zd3 b l vp v0 v1 vt fi tn dd y r ow vk us p0 p1 tvs ts hvt hLI vx h1 hbad))<|(jk)<|(QH 2) fun r3=>?_
 refine z4 (i := 2) (Uz 37) rfl rfl (z3 _ _) (ze h1) rfl z7 (.inl rfl) ?_
 refine (g8)<|(g4)<|(QD 1)<|(QD 2) ?_
 refine zi rfl rfl (Un 8) (zf za (yF (by repeat (first | exact zB | exact zA _ | apply zq rfl)) rfl)) (xB (G := G ++ ([] ++ nw1_1)) b l P1 A1 B1 T1 fi vp v0 v1 vt tn dd y r ow K1 vk us l1 tvs qs p0 p1 ts ps hb8 (hT1.mono (fun x hx => List.mem_append_right _ (List.mem_append_right _ hx))) (yI (Zg hP1 hL1) (fun x hx => List.mem_append_right _ (List.mem_append_right _ hx))) (hK1.mono (fun x hx => List.mem_append_right _ (List.mem_append_right _ hx))) (hvt.mono (fun x hx => List.mem_append_left _ hx)) (yI (Zg hvp hLI) (fun x hx => List.mem_append_left _ hx)) (hk.mono (fun x hx => List.mem_append_left _ hx)) (by omega) hz) rfl rfl ?_
 refine (gm)<|(g7) ?_
 refine zi rfl rfl (Un 11) (zf za (yF (by repeat (first | exact zB | exact zA _ | apply zq rfl)) rfl)) (wu (G := G ++ ([] ++ nw1_1)) W1 y4 [] [] (hW1.mono (fun x hx => List.mem_append_right _ (List.mem_append_right _ hx))) (xa _ 1) (by simp) (by simp)) rfl rfl ?_
 refine z6 (show _ = Value.bool true from congrArg Value.bool (decide_eq_true rfl)) ?_
 refine (QT)<|(gm)<|(g7)<|(Qc) ?_
 refine z6 (show _ = Value.bool true from congrArg Value.bool (by first | exact decide_eq_true rfl | exact beq_self_eq_true _ | exact zS | simp)) ?_
 refine (QT)<|(gt) ?_
 exact ⟨_, rfl, yt⟩
set_option maxRecDepth 20000 in
theorem Wx (b : LN) (l : Bool) (vp v0 v1 vt : Value) (fi : Bool) (tq : Nat) (dd : Bool) (y : SY) (r : RS) (ow : NN) (vk : Value) (us : Int) (ps : List (NN)) (qs p0 p1 : List Int) (tvs : List Value) (ts : List (List Int)) (hk : Shows G 32 vk ps.length (psC ps)) (hvp : Shows G 1 vp qs.length (qs.map iv)) (hvt : Shows G 1 vt tvs.length tvs) (hLI : zm G (v0 :: v1 :: tvs) (p0 :: p1 :: ts)) (zk : ps.length * 32 ≤ 140737488355328) (zp : qs.length * 8 ≤ 140737488355328) (zt : tvs.length * 24 ≤ 140737488355328) (zl : ∀ q ∈ p0 :: p1 :: ts, q.length * 8 ≤ 140737488355328) (vx : Value) (h1 : xl vp v0 v1 vt vk) (hb8 : By b) (hz : ts.length ≤ 9223372036854775807 ∧ ∀ l ∈ qs :: p0 :: p1 :: ts, l.length ≤ 9223372036854775807) (hm : YZ dd ((tq : Nat) : Int) ts.length us (!fi) l (zN l p0 p1 ts) = false) (hbad : ((((dd || decide (((tq : Nat) : Int) < 0)) || decide ((tvs.length : Int) ≤ ((tq : Nat) : Int))) || decide (us < 0)) || decide (((zN l p0 p1 ts : Nat) : Int) ≠ 0)) = false) (hmine : ((decide (((tq % 2 : Nat) : Int) = 0) != l) == fi) = true) : Fp G 5 #[.agg (shC b l vp v0 v1 vt fi ((tq : Nat) : Int) dd y ow r vk us), vx] (.bool true) := by
 refine Qf1 Tryz.func5 ?_
 refine (g4)<|(Qh 0) fun r1=>(g3)<|Qs<|QR ⟨[], 4, [], none, none⟩<|(QD 0)<|(Qm) ?_
 refine xu [(0, _)] (by repeat (first | exact zB | exact zA _ | apply zq rfl)) ⟨rfl, trivial⟩ rfl rfl rfl (Un 12) za (z8b b l vp v0 v1 vt fi ((tq : Nat) : Int) dd y r ow vk us ps qs p0 p1 tvs ts hk hvp hvt hLI zk zp zt zl vx hm) (XN b l qs p0 p1 ts ps fi ((tq : Nat) : Int) dd y ow r us 9 []) rfl rfl fun v1_1 nw1_1 hD1_1 => ?_
 simp only [zu]
 obtain ⟨_, W1, rfl, ⟨P1, A1, B1, T1, K1, l1, rfl, hP1, hT1, hL1, hK1, h11⟩, hW1⟩ := hD1_1
 refine (jk)<|(QH 1) fun r2=>?_
 refine z4 (i := 1) (Uz 37) rfl rfl (z3 _ _) (ze h11) rfl z7 (.inl rfl) ?_
 refine (g8)<|(gc)<|(Qm) ?_
 refine (Ca (z5a b l vp v0 v1 vt fi tq dd y r ow vk us p0 p1 tvs ts hvt hLI vx h1 hbad hmine))<|(jk)<|(QH 2) fun r3=>?_
 refine z4 (i := 2) (Uz 37) rfl rfl (z3 _ _) (ze h1) rfl z7 (.inl rfl) ?_
 refine (g8)<|(g4)<|(QD 1)<|(QD 2) ?_
 refine zi rfl rfl (Un 8) (zf za (yF (by repeat (first | exact zB | exact zA _ | apply zq rfl)) rfl)) (xB (G := G ++ ([] ++ nw1_1)) b l P1 A1 B1 T1 fi vp v0 v1 vt ((tq : Nat) : Int) dd y r ow K1 vk us l1 tvs qs p0 p1 ts ps hb8 (hT1.mono (fun x hx => List.mem_append_right _ (List.mem_append_right _ hx))) (yI (Zg hP1 hL1) (fun x hx => List.mem_append_right _ (List.mem_append_right _ hx))) (hK1.mono (fun x hx => List.mem_append_right _ (List.mem_append_right _ hx))) (hvt.mono (fun x hx => List.mem_append_left _ hx)) (yI (Zg hvp hLI) (fun x hx => List.mem_append_left _ hx)) (hk.mono (fun x hx => List.mem_append_left _ hx)) (by omega) hz) rfl rfl ?_
 refine (gm)<|(g7) ?_
 refine zi rfl rfl (Un 11) (zf za (yF (by repeat (first | exact zB | exact zA _ | apply zq rfl)) rfl)) (wu (G := G ++ ([] ++ nw1_1)) W1 y4 [] [] (hW1.mono (fun x hx => List.mem_append_right _ (List.mem_append_right _ hx))) (xa _ 1) (by simp) (by simp)) rfl rfl ?_
 refine z6 (show _ = Value.bool true from congrArg Value.bool (decide_eq_true rfl)) ?_
 refine (QT)<|(gm)<|(g7)<|(Qc) ?_
 refine z6 (show _ = Value.bool true from congrArg Value.bool (by first | exact decide_eq_true rfl | exact beq_self_eq_true _ | exact zS | simp)) ?_
 refine (QT)<|(gt) ?_
 exact ⟨_, rfl, yt⟩
set_option maxRecDepth 20000 in
theorem Vr (b : LN) (l : Bool) (vp v0 v1 vt : Value) (fi : Bool) (tq : Nat) (dd : Bool) (y : SY) (r : RS) (ow : NN) (vk : Value) (us : Int) (ps : List (NN)) (qs p0 p1 : List Int) (tvs : List Value) (ts : List (List Int)) (hk : Shows G 32 vk ps.length (psC ps)) (hvp : Shows G 1 vp qs.length (qs.map iv)) (hvt : Shows G 1 vt tvs.length tvs) (hLI : zm G (v0 :: v1 :: tvs) (p0 :: p1 :: ts)) (zk : ps.length * 32 ≤ 140737488355328) (zp : qs.length * 8 ≤ 140737488355328) (zt : tvs.length * 24 ≤ 140737488355328) (zl : ∀ q ∈ p0 :: p1 :: ts, q.length * 8 ≤ 140737488355328) (vx : Value) (tx : LN) (hvt9 : Sh G vx tx) (htb : By tx) (h1 : xl vp v0 v1 vt vk) (hb8 : By b) (hz : ts.length ≤ 9223372036854775807 ∧ ∀ l ∈ qs :: p0 :: p1 :: ts, l.length ≤ 9223372036854775807) (hm : YZ dd ((tq : Nat) : Int) ts.length us (!fi) l (zN l p0 p1 ts) = true) (hbad : ((((dd || decide (((tq : Nat) : Int) < 0)) || decide ((tvs.length : Int) ≤ ((tq : Nat) : Int))) || decide (us < 0)) || decide (((zN l p0 p1 ts : Nat) : Int) ≠ 0)) = false) (hmine : ((decide (((tq % 2 : Nat) : Int) = 0) != l) == fi) = false) (hs : 800 < tx.length) : Fp G 5 #[.agg (shC b l vp v0 v1 vt fi ((tq : Nat) : Int) dd y ow r vk us), vx] (.bool true) := by
 refine Qf1 Tryz.func5 ?_
 refine (g4)<|(Qh 0) fun r1=>(g3)<|Qs<|QR ⟨[], 4, [], none, none⟩<|(QD 0)<|(Qm) ?_
 refine xu [(0, _)] (by repeat (first | exact zB | exact zA _ | apply zq rfl)) ⟨rfl, trivial⟩ rfl rfl rfl (Un 12) za (zaI b l vp v0 v1 vt fi ((tq : Nat) : Int) dd y r ow vk us ps qs p0 p1 tvs ts hk hvp hvt hLI zk zp zt zl vx tx hvt9 htb hm hs) (XN b l qs p0 p1 ts ps fi ((tq : Nat) : Int) dd y ow r us 1 []) rfl rfl fun v1_1 nw1_1 hD1_1 => ?_
 simp only [zu]
 obtain ⟨_, W1, rfl, ⟨P1, A1, B1, T1, K1, l1, rfl, hP1, hT1, hL1, hK1, h11⟩, hW1⟩ := hD1_1
 refine (jk)<|(QH 1) fun r2=>?_
 refine z4 (i := 1) (Uz 37) rfl rfl (z3 _ _) (ze h11) rfl z7 (.inl rfl) ?_
 refine (g8)<|(gc)<|(Qm) ?_
 refine (Ca (z7C b l vp v0 v1 vt fi tq dd y r ow vk us p0 p1 tvs ts hvt hLI vx tx hvt9 htb h1 hbad hmine hs))<|(jk)<|(QH 2) fun r3=>?_
 refine z4 (i := 2) (Uz 37) rfl rfl (z3 _ _) (ze h1) rfl z7 (.inl rfl) ?_
 refine (g8)<|(g4)<|(QD 1)<|(QD 2) ?_
 refine zi rfl rfl (Un 8) (zf za (yF (by repeat (first | exact zB | exact zA _ | apply zq rfl)) rfl)) (xB (G := G ++ ([] ++ nw1_1)) b l P1 A1 B1 T1 fi vp v0 v1 vt ((tq : Nat) : Int) dd y r ow K1 vk us l1 tvs qs p0 p1 ts ps hb8 (hT1.mono (fun x hx => List.mem_append_right _ (List.mem_append_right _ hx))) (yI (Zg hP1 hL1) (fun x hx => List.mem_append_right _ (List.mem_append_right _ hx))) (hK1.mono (fun x hx => List.mem_append_right _ (List.mem_append_right _ hx))) (hvt.mono (fun x hx => List.mem_append_left _ hx)) (yI (Zg hvp hLI) (fun x hx => List.mem_append_left _ hx)) (hk.mono (fun x hx => List.mem_append_left _ hx)) (by omega) hz) rfl rfl ?_
 refine (gm)<|(g7) ?_
 refine zi rfl rfl (Un 11) (zf za (yF (by repeat (first | exact zB | exact zA _ | apply zq rfl)) rfl)) (wu (G := G ++ ([] ++ nw1_1)) W1 y4 [] [] (hW1.mono (fun x hx => List.mem_append_right _ (List.mem_append_right _ hx))) (xa _ 1) (by simp) (by simp)) rfl rfl ?_
 refine z6 (show _ = Value.bool true from congrArg Value.bool (decide_eq_true rfl)) ?_
 refine (QT)<|(gm)<|(g7)<|(Qc) ?_
 refine z6 (show _ = Value.bool true from congrArg Value.bool (by first | exact decide_eq_true rfl | exact beq_self_eq_true _ | exact zS | simp)) ?_
 refine (QT)<|(gt) ?_
 exact ⟨_, rfl, yt⟩
set_option maxRecDepth 20000 in
theorem z1x (hI : IVB ∈ G) (hP : (⟨2, arr .u64 16 (d16 PP), 120⟩ : Blk) ∈ G) (b : LN) (l : Bool) (vp v0 v1 vt : Value) (fi : Bool) (tq : Nat) (dd : Bool) (y : SY) (r : RS) (ow : NN) (vk : Value) (us : Nat) (ps : List (NN)) (qs p0 p1 : List Int) (tvs : List Value) (ts : List (List Int)) (hk : Shows G 32 vk ps.length (psC ps)) (hvp : Shows G 1 vp qs.length (qs.map iv)) (hvt : Shows G 1 vt tvs.length tvs) (hLI : zm G (v0 :: v1 :: tvs) (p0 :: p1 :: ts)) (zk : ps.length * 32 ≤ 140737488355328) (zp : qs.length * 8 ≤ 140737488355328) (zt : tvs.length * 24 ≤ 140737488355328) (zl : ∀ q ∈ p0 :: p1 :: ts, q.length * 8 ≤ 140737488355328) (hO : DOR ∈ G) (hp : okP ps) (hy : okY y) (hr : okR r) (ho : B32 ow) (vx : Value) (tx : LN) (hvt9 : Sh G vx tx) (htb : By tx) (h1 : xl vp v0 v1 vt vk) (hb8 : By b) (hz : ts.length ≤ 9223372036854775807 ∧ ∀ l ∈ qs :: p0 :: p1 :: ts, l.length ≤ 9223372036854775807) (q : LN) (hqe : ts.getD tq [] = ci q) (hq7 : ∀ x ∈ q, 1 ≤ x ∧ x ≤ 7) (hq6 : q.length ≤ 6) (htl : tq < ts.length) (htz : tq < 1000000) (hm : YZ dd ((tq : Nat) : Int) ts.length ((us : Nat) : Int) (!fi) l (zN l p0 p1 ts) = true) (hbad : ((((dd || decide (((tq : Nat) : Int) < 0)) || decide ((tvs.length : Int) ≤ ((tq : Nat) : Int))) || decide (((us : Nat) : Int) < 0)) || decide (((zN l p0 p1 ts : Nat) : Int) ≠ 0)) = false) (hmine : ((decide (((tq % 2 : Nat) : Int) = 0) != l) == fi) = false) (hlt : tx.length ≤ 800) (w : Nat × SS × LN) (hw : vj fi ow ps q (y, r, us) tx = w) (h0 : w.1 = 0) : Fp G 5 #[.agg (shC b l vp v0 v1 vt fi ((tq : Nat) : Int) dd y ow r vk ((us : Nat) : Int)), vx] (.bool true) := by
 have hwl : w.2.2.length ≤ 1000 := by rw [← hw]; have := V7 (fi := fi) (ow := ow) (ps := ps) q (y, r, us) tx; omega
 have hob : ∀ x ∈ w.2.2, x < 256 := by rw [← hw]; exact zdo q (y, r, us) htb ⟨hy, hr⟩
 refine Qf1 Tryz.func5 ?_
 refine (g4)<|(Qh 0) fun r1=>(g3)<|Qs<|QR ⟨[], 4, [], none, none⟩<|(QD 0)<|(Qm) ?_
 refine xu [(0, _)] (by repeat (first | exact zB | exact zA _ | apply zq rfl)) ⟨rfl, trivial⟩ rfl rfl rfl (Un 12) za (zhP b l vp v0 v1 vt fi tq dd y r ow vk us ps qs p0 p1 tvs ts hk hvp hvt hLI zk zp zt zl hO hp hy hr ho vx tx hvt9 htb q hqe hq7 hq6 htl htz hm hlt w hw h0) (XN b l qs p0 p1 ts ps fi ((tq + 1 : Nat) : Int) dd w.2.1.1 ow w.2.1.2.1 ((w.2.1.2.2 : Nat) : Int) 0 w.2.2) rfl rfl fun v1_1 nw1_1 hD1_1 => ?_
 simp only [zu]
 obtain ⟨_, W1, rfl, ⟨P1, A1, B1, T1, K1, l1, rfl, hP1, hT1, hL1, hK1, h11⟩, hW1⟩ := hD1_1
 refine (jk)<|(QH 1) fun r2=>?_
 refine z4 (i := 1) (Uz 37) rfl rfl (z3 _ _) (ze h11) rfl z7 (.inl rfl) ?_
 refine (g8)<|Qs<|QR ⟨[], 4, [], none, none⟩<|(QD 0)<|(Qm) ?_
 refine zI 2 (fun v => .tuple #[.agg (shC b l vp v0 v1 vt fi ((tq + 1 : Nat) : Int) dd w.2.1.1 ow w.2.1.2.1 vk ((w.2.1.2.2 : Nat) : Int)), v, ii 0]) rfl rfl (Un 13) za (zfB hI hP b l vp v0 v1 vt fi tq dd y r ow vk us ps hk hp h1 hy hr ho q tvs hvt (by rw [(zr (zr hLI)).1]; exact htl) (z42 (zr (zr hLI)) htl hqe) hq7 hq6 p0 p1 ts hLI vx tx hvt9 htb hlt hbad hmine htz w hw h0) (by simp only [maxLen]; omega) (by rw [List.length_map, Nat.mul_one]) rfl rfl fun v1_2 oz1_2 ho1_2 => ?_
 refine (jk)<|(QH 3) fun r4=>?_
 refine z4 (i := 3) (Uz 37) rfl rfl (z3 _ _) (ze h1) rfl z7 (.inl rfl) ?_
 refine (g8)<|(g4)<|(QD 1)<|(QD 3) ?_
 refine zi rfl rfl (Un 8) (zf za (yF (by repeat (first | exact zB | exact zA _ | apply zq rfl)) rfl)) (xB (G := G ++ ([] ++ nw1_1)) b l P1 A1 B1 T1 fi vp v0 v1 vt ((tq + 1 : Nat) : Int) dd w.2.1.1 w.2.1.2.1 ow K1 vk ((w.2.1.2.2 : Nat) : Int) l1 tvs qs p0 p1 ts ps hb8 (hT1.mono (fun x hx => List.mem_append_right _ (List.mem_append_right _ hx))) (yI (Zg hP1 hL1) (fun x hx => List.mem_append_right _ (List.mem_append_right _ hx))) (hK1.mono (fun x hx => List.mem_append_right _ (List.mem_append_right _ hx))) (hvt.mono (fun x hx => List.mem_append_left _ hx)) (yI (Zg hvp hLI) (fun x hx => List.mem_append_left _ hx)) (hk.mono (fun x hx => List.mem_append_left _ hx)) (by omega) hz) rfl rfl ?_
 refine (gm)<|(g7) ?_
 refine zi rfl rfl (Un 11) (zf (zf za (yF (by repeat (first | exact zB | exact zA _ | apply zq rfl)) rfl)) (zH 2 rfl ⟨[], trivial⟩)) (wu (G := (G ++ ([] ++ nw1_1)) ++ oz1_2.toList) W1 v1_2 w.2.2 w.2.2 (hW1.mono (fun x hx => List.mem_append_left _ (List.mem_append_right _ (List.mem_append_right _ hx)))) ((zG ho1_2).mono (fun x hx => List.mem_append_right _ hx)) hob hob) rfl rfl ?_
 refine z6 (show _ = Value.bool true from congrArg Value.bool (decide_eq_true rfl)) ?_
 refine (QT)<|(gm)<|(g7)<|(Qc) ?_
 refine z6 (show _ = Value.bool true from congrArg Value.bool (by first | exact decide_eq_true rfl | exact beq_self_eq_true _ | exact zS | simp)) ?_
 refine (QT)<|(gt) ?_
 exact ⟨_, rfl, yt⟩
set_option maxRecDepth 20000 in
theorem z1l (hI : IVB ∈ G) (hP : (⟨2, arr .u64 16 (d16 PP), 120⟩ : Blk) ∈ G) (b : LN) (l : Bool) (vp v0 v1 vt : Value) (fi : Bool) (tq : Nat) (dd : Bool) (y : SY) (r : RS) (ow : NN) (vk : Value) (us : Nat) (ps : List (NN)) (qs p0 p1 : List Int) (tvs : List Value) (ts : List (List Int)) (hk : Shows G 32 vk ps.length (psC ps)) (hvp : Shows G 1 vp qs.length (qs.map iv)) (hvt : Shows G 1 vt tvs.length tvs) (hLI : zm G (v0 :: v1 :: tvs) (p0 :: p1 :: ts)) (zk : ps.length * 32 ≤ 140737488355328) (zp : qs.length * 8 ≤ 140737488355328) (zt : tvs.length * 24 ≤ 140737488355328) (zl : ∀ q ∈ p0 :: p1 :: ts, q.length * 8 ≤ 140737488355328) (hO : DOR ∈ G) (hp : okP ps) (hy : okY y) (hr : okR r) (ho : B32 ow) (vx : Value) (tx : LN) (hvt9 : Sh G vx tx) (htb : By tx) (h1 : xl vp v0 v1 vt vk) (hb8 : By b) (hz : ts.length ≤ 9223372036854775807 ∧ ∀ l ∈ qs :: p0 :: p1 :: ts, l.length ≤ 9223372036854775807) (q : LN) (hqe : ts.getD tq [] = ci q) (hq7 : ∀ x ∈ q, 1 ≤ x ∧ x ≤ 7) (hq6 : q.length ≤ 6) (htl : tq < ts.length) (htz : tq < 1000000) (hm : YZ dd ((tq : Nat) : Int) ts.length ((us : Nat) : Int) (!fi) l (zN l p0 p1 ts) = true) (hbad : ((((dd || decide (((tq : Nat) : Int) < 0)) || decide ((tvs.length : Int) ≤ ((tq : Nat) : Int))) || decide (((us : Nat) : Int) < 0)) || decide (((zN l p0 p1 ts : Nat) : Int) ≠ 0)) = false) (hmine : ((decide (((tq % 2 : Nat) : Int) = 0) != l) == fi) = false) (hlt : tx.length ≤ 800) (w : Nat × SS × LN) (hw : vj fi ow ps q (y, r, us) tx = w) (h0 : w.1 ≠ 0) : Fp G 5 #[.agg (shC b l vp v0 v1 vt fi ((tq : Nat) : Int) dd y ow r vk ((us : Nat) : Int)), vx] (.bool true) := by
 refine Qf1 Tryz.func5 ?_
 refine (g4)<|(Qh 0) fun r1=>(g3)<|Qs<|QR ⟨[], 4, [], none, none⟩<|(QD 0)<|(Qm) ?_
 refine xu [(0, _)] (by repeat (first | exact zB | exact zA _ | apply zq rfl)) ⟨rfl, trivial⟩ rfl rfl rfl (Un 12) za (zeE b l vp v0 v1 vt fi tq dd y r ow vk us ps qs p0 p1 tvs ts hk hvp hvt hLI zk zp zt zl hO hp hy hr ho vx tx hvt9 htb q hqe hq7 hq6 htl htz hm hlt w hw h0) (XN b l qs p0 p1 ts ps fi ((tq : Nat) : Int) true y ow r ((us : Nat) : Int) w.1 []) rfl rfl fun v1_1 nw1_1 hD1_1 => ?_
 simp only [zu]
 obtain ⟨_, W1, rfl, ⟨P1, A1, B1, T1, K1, l1, rfl, hP1, hT1, hL1, hK1, h11⟩, hW1⟩ := hD1_1
 refine (jk)<|(QH 1) fun r2=>?_
 refine z4 (i := 1) (Uz 37) rfl rfl (z3 _ _) (ze h11) rfl z7 (.inl rfl) ?_
 refine (g8)<|(gc)<|(Qm) ?_
 refine (Ca (zbG hI hP b l vp v0 v1 vt fi tq dd y r ow vk us ps hk hp h1 hy hr ho q tvs hvt (by rw [(zr (zr hLI)).1]; exact htl) (z42 (zr (zr hLI)) htl hqe) hq7 hq6 p0 p1 ts hLI vx tx hvt9 htb hlt hbad hmine htz w hw h0))<|(jk)<|(QH 2) fun r3=>?_
 refine z4 (i := 2) (Uz 37) rfl rfl (z3 _ _) (ze h1) rfl z7 (.inl rfl) ?_
 refine (g8)<|(g4)<|(QD 1)<|(QD 2) ?_
 refine zi rfl rfl (Un 8) (zf za (yF (by repeat (first | exact zB | exact zA _ | apply zq rfl)) rfl)) (xB (G := G ++ ([] ++ nw1_1)) b l P1 A1 B1 T1 fi vp v0 v1 vt ((tq : Nat) : Int) true y r ow K1 vk ((us : Nat) : Int) l1 tvs qs p0 p1 ts ps hb8 (hT1.mono (fun x hx => List.mem_append_right _ (List.mem_append_right _ hx))) (yI (Zg hP1 hL1) (fun x hx => List.mem_append_right _ (List.mem_append_right _ hx))) (hK1.mono (fun x hx => List.mem_append_right _ (List.mem_append_right _ hx))) (hvt.mono (fun x hx => List.mem_append_left _ hx)) (yI (Zg hvp hLI) (fun x hx => List.mem_append_left _ hx)) (hk.mono (fun x hx => List.mem_append_left _ hx)) (by omega) hz) rfl rfl ?_
 refine (gm)<|(g7) ?_
 refine zi rfl rfl (Un 11) (zf za (yF (by repeat (first | exact zB | exact zA _ | apply zq rfl)) rfl)) (wu (G := G ++ ([] ++ nw1_1)) W1 y4 [] [] (hW1.mono (fun x hx => List.mem_append_right _ (List.mem_append_right _ hx))) (xa _ 1) (by simp) (by simp)) rfl rfl ?_
 refine z6 (show _ = Value.bool true from congrArg Value.bool (decide_eq_true rfl)) ?_
 refine (QT)<|(gm)<|(g7)<|(Qc) ?_
 refine z6 (show _ = Value.bool true from congrArg Value.bool (by first | exact decide_eq_true rfl | exact beq_self_eq_true _ | exact zS | simp)) ?_
 refine (QT)<|(gt) ?_
 exact ⟨_, rfl, yt⟩
end Go.Proofs.YtlidhfijmcelpaaGreatDoor
namespace Go.Proofs.YtlidhfijmcelpaaGreatDoor
open Go.ChangeShapes Go.WideShapes Go.ChangeAt Go.RowKit
theorem v5 {W : World} (h : z9S Tryz.prog W "signet/blake.orders" Rows.laid_signet_blake_orders) : RIn W (⟨5, arr .i64 160 sgf, 256⟩ : Blk) :=
 z3V (by kernel_rfl) (by kernel_rfl) (by decide) h fun cs hc r hr => by
  have h1 := zgY (M := 10) (N := 16) (rs := [[0, 1, 2, 3, 4, 5, 6, 7, 8, 9, 10, 11, 12, 13, 14, 15], [14, 10, 4, 8, 9, 15, 13, 6, 1, 12, 0, 2, 11, 7, 5, 3], [11, 8, 12, 0, 5, 2, 15, 13, 10, 14, 3, 6, 7, 1, 9, 4], [7, 9, 3, 1, 13, 12, 11, 14, 2, 6, 5, 10, 4, 0, 15, 8], [9, 0, 5, 7, 2, 4, 10, 15, 14, 1, 11, 12, 6, 8, 3, 13], [2, 12, 6, 10, 0, 11, 8, 3, 4, 13, 7, 5, 15, 14, 1, 9], [12, 5, 1, 15, 14, 13, 4, 10, 0, 7, 6, 3, 9, 2, 8, 11], [13, 11, 7, 14, 12, 1, 3, 9, 5, 0, 15, 4, 8, 6, 2, 10], [6, 15, 14, 9, 11, 3, 0, 8, 12, 2, 13, 7, 1, 4, 10, 5], [10, 2, 8, 4, 7, 6, 1, 5, 15, 11, 9, 14, 3, 12, 13, 0]]) (show Tryz.prog.underlying 256 = some (.array 10 255) by kernel_rfl) (show Tryz.prog.underlying 255 = some (.array 16 3) by kernel_rfl) (show Tryz.prog.underlying 3 = some (.int .i64) by kernel_rfl) (show Tryz.prog.cellsOf 3 = 1 by kernel_rfl) (show Tryz.prog.cellsOf 255 = 16 by kernel_rfl) hc r hr
  rw [h1]
  have h2 : ((List.range 160).all fun r => (([[0, 1, 2, 3, 4, 5, 6, 7, 8, 9, 10, 11, 12, 13, 14, 15], [14, 10, 4, 8, 9, 15, 13, 6, 1, 12, 0, 2, 11, 7, 5, 3], [11, 8, 12, 0, 5, 2, 15, 13, 10, 14, 3, 6, 7, 1, 9, 4], [7, 9, 3, 1, 13, 12, 11, 14, 2, 6, 5, 10, 4, 0, 15, 8], [9, 0, 5, 7, 2, 4, 10, 15, 14, 1, 11, 12, 6, 8, 3, 13], [2, 12, 6, 10, 0, 11, 8, 3, 4, 13, 7, 5, 15, 14, 1, 9], [12, 5, 1, 15, 14, 13, 4, 10, 0, 7, 6, 3, 9, 2, 8, 11], [13, 11, 7, 14, 12, 1, 3, 9, 5, 0, 15, 4, 8, 6, 2, 10], [6, 15, 14, 9, 11, 3, 0, 8, 12, 2, 13, 7, 1, 4, 10, 5], [10, 2, 8, 4, 7, 6, 1, 5, 15, 11, 9, 14, 3, 12, 13, 0]] : List (List Int)).getD (r / 16) []).getD (r % 16) 0 == (sgf r : Int)) = true := by decide +kernel
  have h3 := (List.all_eq_true.1 h2) r (List.mem_range.2 hr)
  rw [eq_of_beq h3]
theorem vd {W : World} (h : z9S Tryz.prog W "signet/signetref.iv" Rows.laid_signet_signetref_iv) : RIn W (⟨1, arr .u32 8 ivf, 110⟩ : Blk) :=
 z3V (by kernel_rfl) (by kernel_rfl) (by decide) h fun cs hc r hr => by
  have h1 := z3P (zs := [1779033703, 3144134277, 1013904242, 2773480762, 1359893119, 2600822924, 528734635, 1541459225]) (show Tryz.prog.underlying 110 = some (.array 8 109) by kernel_rfl) (show Tryz.prog.underlying 109 = some (.int .u32) by kernel_rfl) (show Tryz.prog.cellsOf 109 = 1 by kernel_rfl) hc r hr
  rw [h1]
  have h2 : ((List.range 8).all fun r => ([1779033703, 3144134277, 1013904242, 2773480762, 1359893119, 2600822924, 528734635, 1541459225] : List Int).getD r 0 == (ivf r : Int)) = true := by decide +kernel
  have h3 := (List.all_eq_true.1 h2) r (List.mem_range.2 hr)
  rw [eq_of_beq h3]
theorem wE {W : World} (h : z9S Tryz.prog W "signet/signetref.prime" Rows.laid_signet_signetref_prime) : RIn W (⟨2, arr .u64 16 (d16 PP), 120⟩ : Blk) :=
 z3V (by kernel_rfl) (by kernel_rfl) (by decide) h fun cs hc r hr => by
  have h1 := z3P (zs := [65517, 65535, 65535, 65535, 65535, 65535, 65535, 65535, 65535, 65535, 65535, 65535, 65535, 65535, 65535, 32767]) (show Tryz.prog.underlying 120 = some (.array 16 31) by kernel_rfl) (show Tryz.prog.underlying 31 = some (.int .u64) by kernel_rfl) (show Tryz.prog.cellsOf 31 = 1 by kernel_rfl) hc r hr
  rw [h1]
  have h2 : ((List.range 16).all fun r => ([65517, 65535, 65535, 65535, 65535, 65535, 65535, 65535, 65535, 65535, 65535, 65535, 65535, 65535, 65535, 32767] : List Int).getD r 0 == ((d16 PP) r : Int)) = true := by decide +kernel
  have h3 := (List.all_eq_true.1 h2) r (List.mem_range.2 hr)
  rw [eq_of_beq h3]
end Go.Proofs.YtlidhfijmcelpaaGreatDoor
