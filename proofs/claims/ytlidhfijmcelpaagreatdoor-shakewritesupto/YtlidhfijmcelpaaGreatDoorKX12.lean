import Derived.Test.YtlidhfijmcelpaaGreatDoorKX11
set_option maxHeartbeats 8000000
set_option maxRecDepth 30000
attribute [local simp] Go.Proofs.YtlidhfijmcelpaaGreatDoor.By Go.Proofs.YtlidhfijmcelpaaGreatDoor.L8
namespace Go.Proofs.YtlidhfijmcelpaaGreatDoor
open Go Go.RowKit
variable {G : Mem}
theorem z1p (va vb : Value) (ps : List (NN)) (ha : Shows G 32 va ps.length (psC ps)) (hb : Shows G 32 vb ps.length (psC ps)) (hz : ps.length ≤ 9223372036854775807) : Fp G 26 #[va, vb] (.bool true) := by
 refine Qf1 Tryz.func26 ?_
 refine (gc)<|(ge)<|(QC ha)<|(Qm)<|(QC hb)<|(QN) ?_
 refine z6 (show _ = Value.bool false from congrArg Value.bool (by first | exact decide_eq_false (by omega) | simp)) ?_
 refine (go)<|(ge)<|(QC ha)<|(Qm)<|Qn<|Qb ?_
 refine QzK [(0, _), (1, _), (12, _)] [] (fun kk E m => ∃ (i : Nat), kk = ps.length - i ∧ E = [(13, ii i)] ∧ m = [] ∧ (i ≤ ps.length)) ⟨0, rfl, rfl, rfl, by omega⟩ ⟨rfl, rfl, rfl, rfl, trivial⟩ trivial ?_
 rintro kk E m ⟨i, rfl, rfl, rfl, hf0_0⟩
 simp only [zq, zx]
 refine (gq) ?_
 refine (Qcd) (fun hc1=>?_) fun hc1=>?_
 ·have hc1 : i < ps.length := by omega
  refine (jr)<|(g3)<|(gr)<|(gb) ?_
  refine yf ha (Uu 24) (Uz 30) rfl rfl (by omega) rfl ?_
  refine Yk ha ze (Uu 30) rfl (Uz 30) rfl (by decide) (by rw [xc vI]; omega) (z2X (by omega)) rfl ?_
  refine z6 (congrArg Value.agg (W2 _)) ?_
  refine (gb) ?_
  refine yf hb (Uu 24) (Uz 30) rfl rfl (by omega) rfl ?_
  refine Yk hb ze (Uu 30) rfl (Uz 30) rfl (by decide) (by rw [xc vI]; omega) (z2X (by omega)) rfl ?_
  refine z6 (congrArg Value.agg (W2 _)) ?_
  refine Xt (Uu 30) (Uu 5) (Uz 5) z0j rfl rfl rfl ?_
  refine z6 (show _ = Value.bool false from congrArg Value.bool (by first | (rw [zT]; rfl) | simp [zT])) ?_
  refine (go)<|(gl) ?_
  refine QzL ⟨i + 1, rfl, rfl, rfl, by omega⟩ ⟨rfl, rfl, rfl, rfl, trivial⟩ trivial ?_
  omega
 ·have hz0 : i = ps.length := by omega
  refine Qe<|(gz) ?_
  exact ⟨_, rfl, yt⟩
set_option maxRecDepth 20000 in
theorem xC (b : LN) (l : Bool) (vp v0 v1 vt : Value) (fi : Bool) (wp w0 w1 wt : Value) (tn : Int) (dd : Bool) (y : SY) (r : RS) (ow : NN) (vk : Value) (wk : Value) (us : Int) (tv1 tv2 : List Value) (pa p0 p1 : List Int) (ts : List (List Int)) (ps : List (NN)) (hb8 : By b) (hv1 : Shows G 1 vt tv1.length tv1) (hL1 : zn G (vp :: v0 :: v1 :: tv1) (pa :: p0 :: p1 :: ts)) (hk1 : Shows G 32 vk ps.length (psC ps)) (hv2 : Shows G 1 wt tv2.length tv2) (hL2 : zn G (wp :: w0 :: w1 :: tv2) (pa :: p0 :: p1 :: ts)) (hk2 : Shows G 32 wk ps.length (psC ps)) (hz9 : ps.length ≤ 9223372036854775807) (hz : ts.length ≤ 9223372036854775807 ∧ ∀ l ∈ pa :: p0 :: p1 :: ts, l.length ≤ 9223372036854775807) : Fp G 8 #[.agg (shC b l vp v0 v1 vt fi tn dd y ow r vk us), .agg (shC b l wp w0 w1 wt fi tn dd y ow r wk us)] (.bool true) := by
 refine Qf1 Tryz.func8 ?_
 refine (g4)<|(Qh 0) fun r1=>(Qh 1) fun r2=>(j3)<|(Qf 0)<|(QlK 0 0 6) ?_
 refine (Av (.agg (zgO b l vp v0 v1 vt)))<|(Qf 0)<|(QlK 1 0 6) ?_
 refine (Av (.agg (zgO b l wp w0 w1 wt))) ?_
 refine (Ca (zbX b l vp v0 v1 vt tv1 pa p0 p1 ts hb8 hv1 hL1 b l wp w0 w1 wt tv2 pa p0 p1 ts hb8 hv2 hL2 hz)) ?_
 refine (Ab (z6y _ _ _ _ _ _))<|(g7)<|(Qf 238)<|(Qy)<|(QV 21 0)<|(Qy)<|(Qf 238)<|(Qy)<|(QV 21 1)<|(Qy) ?_
 refine (Ca (z1p vk wk ps hk1 hk2 hz9))<|(QT)<|(g7)<|(Qf 6)<|(Qy)<|(QV 6 0)<|(Qy)<|(Qf 6)<|(Qy)<|(QV 6 1)<|(Qy) ?_
 refine XU (Uu 4) rfl rfl rfl ?_
 refine z6 (show _ = Value.bool true from congrArg Value.bool (by first | exact decide_eq_true rfl | exact beq_self_eq_true _ | exact zT | simp)) ?_
 refine (QT)<|(g7)<|(Qf 7)<|(Qy)<|(QV 7 0)<|(Qy)<|(Qf 7)<|(Qy)<|(QV 7 1)<|(Qy)<|(Qc) ?_
 refine z6 (show _ = Value.bool true from congrArg Value.bool (by first | exact decide_eq_true rfl | exact beq_self_eq_true _ | exact zT | simp)) ?_
 refine (QT)<|(g7)<|(Qf 8)<|(Qy)<|(QV 8 0)<|(Qy)<|(Qf 8)<|(Qy)<|(QV 8 1)<|(Qy) ?_
 refine XU (Uu 4) rfl rfl rfl ?_
 refine z6 (show _ = Value.bool true from congrArg Value.bool (by first | exact decide_eq_true rfl | exact beq_self_eq_true _ | exact zT | simp)) ?_
 refine (QT)<|(g7)<|(Qf 9)<|(Qy)<|(QlK 0 9 5) ?_
 refine (Av (SVy y))<|(Qy)<|(Qf 9)<|(Qy)<|(QlK 1 9 5) ?_
 refine (Av (SVy y))<|(Qy) ?_
 refine zcW zkE zkg rfl rfl rfl ?_
 refine z6 (show _ = Value.bool true from congrArg Value.bool (by first | exact decide_eq_true rfl | exact beq_self_eq_true _ | exact zT | simp)) ?_
 refine (QT)<|(g7)<|(Qf 107)<|(Qy)<|(Qv 14 0)<|(Qy)<|(Qf 107)<|(Qy)<|(Qv 14 1)<|(Qy) ?_
 refine ZS (Uu 30) (Uu 5) (Uz 5) z0j rfl rfl rfl ?_
 refine z6 (show _ = Value.bool true from congrArg Value.bool (by first | exact decide_eq_true rfl | exact beq_self_eq_true _ | exact zT | simp)) ?_
 refine (QT)<|(g7)<|(Qf 139)<|(Qy)<|(Qv 15 0)<|(Qy)<|(Qf 139)<|(Qy)<|(Qv 15 1)<|(Qy) ?_
 refine ZS (Uu 30) (Uu 5) (Uz 5) z0j rfl rfl rfl ?_
 refine z6 (show _ = Value.bool true from congrArg Value.bool (by first | exact decide_eq_true rfl | exact beq_self_eq_true _ | exact zT | simp)) ?_
 refine (QT)<|(g7)<|(Qf 171)<|(Qy)<|(QV 16 0)<|(Qy)<|(Qf 171)<|(Qy)<|(QV 16 1)<|(Qy) ?_
 refine XU (Uu 4) rfl rfl rfl ?_
 refine z6 (show _ = Value.bool true from congrArg Value.bool (by first | exact decide_eq_true rfl | exact beq_self_eq_true _ | exact zT | simp)) ?_
 refine (QT)<|(g7)<|(Qf 172)<|(Qy)<|(Qv 17 0)<|(Qy)<|(Qf 172)<|(Qy)<|(Qv 17 1)<|(Qy) ?_
 refine ZS (Uu 30) (Uu 5) (Uz 5) z0j rfl rfl rfl ?_
 refine z6 (show _ = Value.bool true from congrArg Value.bool (by first | exact decide_eq_true rfl | exact beq_self_eq_true _ | exact zT | simp)) ?_
 refine (QT)<|(g7)<|(Qf 204)<|(Qy)<|(QV 18 0)<|(Qy)<|(Qf 204)<|(Qy)<|(QV 18 1)<|(Qy) ?_
 refine XU (Uu 4) rfl rfl rfl ?_
 refine z6 (show _ = Value.bool true from congrArg Value.bool (by first | exact decide_eq_true rfl | exact beq_self_eq_true _ | exact zT | simp)) ?_
 refine (QT)<|(g7)<|(Qf 205)<|(Qy)<|(Qv 19 0)<|(Qy)<|(Qf 205)<|(Qy)<|(Qv 19 1)<|(Qy) ?_
 refine ZS (Uu 30) (Uu 5) (Uz 5) z0j rfl rfl rfl ?_
 refine z6 (show _ = Value.bool true from congrArg Value.bool (by first | exact decide_eq_true rfl | exact beq_self_eq_true _ | exact zT | simp)) ?_
 refine (QT)<|(g7)<|(Qf 237)<|(Qy)<|(QV 20 0)<|(Qy)<|(Qf 237)<|(Qy)<|(QV 20 1)<|(Qy) ?_
 refine XU (Uu 4) rfl rfl rfl ?_
 refine z6 (show _ = Value.bool true from congrArg Value.bool (by first | exact decide_eq_true rfl | exact beq_self_eq_true _ | exact zT | simp)) ?_
 refine (QT)<|(g7)<|(Qf 239)<|(Qy)<|(QV 22 0)<|(Qy)<|(Qf 239)<|(Qy)<|(QV 22 1)<|(Qy)<|(Qc) ?_
 refine z6 (show _ = Value.bool true from congrArg Value.bool (by first | exact decide_eq_true rfl | exact beq_self_eq_true _ | exact zT | simp)) ?_
 refine (QT)<|(gt) ?_
 exact ⟨_, rfl, yt⟩
theorem z9I (n : Nat) (hn : n = 0) : Fq G [] 109 #[yg, ii n] (fun v l1 nw => l1 = [] ∧ ∃ v', v = v' ∧ OwnS 5 1 v' 0 [] nw) := by
 refine QfN Tryz.func109 ?_
 refine (gc)<|(ge)<|(Ql)<|(j8)<|(ge)<|(Qm) ?_
 refine z3r (Uu 22) rfl rfl rfl ?_
 refine (Qm)<|(QC (yI [] 1)) ?_
 refine xR rfl rfl rfl (by omega) (by omega) ?_
 refine (Av (ii 0)) ?_
 refine xR rfl rfl rfl (by omega) (by omega) ?_
 refine (Av (ii n))<|(gm)<|(QG)<|(j8)<|(g6)<|(gt) ?_
 exact ⟨_, _, _, 99, rfl, yt, (wL _ _), rfl⟩
theorem zbk (n : Nat) (hn : 0 < n) (hm : n ≤ 1099511627776) : Fq G [] 109 #[yg, ii n] (fun v l1 nw => l1 = [] ∧ ∃ v', v = v' ∧ OwnS 5 1 v' 0 [] nw) := by
 refine QfN Tryz.func109 ?_
 refine (gc)<|(ge)<|(Ql)<|(j8)<|(ge)<|(Qm) ?_
 refine z3r (Uu 22) rfl rfl rfl ?_
 refine (Qm)<|(QC (yI [] 1)) ?_
 refine xR rfl rfl rfl (by omega) (by omega) ?_
 refine (Av (ii 0)) ?_
 refine xR rfl rfl rfl (by omega) (by omega) ?_
 refine (Av (ii n))<|(gm)<|(QG)<|(Qat)<|(gv)<|Qp<|(gb) ?_
 refine z3r (Uu 22) rfl rfl rfl ?_
 refine Xd 0 0 (yI [] 1) (Uu 22) (Uz 5) rfl rfl rfl rfl ⟨_, rfl⟩ (by omega) (by omega) rfl ?_
 refine (Qm) ?_
 refine zbb 0 (z := 1) (Uu 22) (Uu 3) (Uz 5) (Uy 5) (Ub 5) rfl rfl rfl (by omega) (by simp only [maxLen]; omega) (by omega) rfl fun v3_1 oz3_1 xs3_1 ho3_1 => ?_
 refine (Qm)<|(QC (yI [] 1)) ?_
 refine Xd 0 0 ho3_1.shows (Uu 22) (Uz 5) rfl rfl rfl rfl ⟨_, rfl⟩ (by omega) (by omega) rfl ?_
 refine (gm)<|(gt) ?_
 exact ⟨_, _, _, 0, rfl, yt, (zy (OwnS.cut ho3_1 (Nat.zero_le _)) rfl rfl), rfl⟩
theorem zg7 {G : Mem} (n : Nat) (hm : n ≤ 1099511627776) : Fq G [] 109 #[yg, ii n] (fun v l1 nw => l1 = [] ∧ ∃ v', v = v' ∧ OwnS 5 1 v' 0 [] nw) := by
 by_cases h : n = 0
 ·exact z9I n h
 ·exact zbk n (by omega) hm
theorem z2m (v : Value) (vs : List Value) (ls : List (LN)) (hv : Shows G 1 v vs.length vs) (hL : z0G G vs ls) (hn : vs.length ≤ 1099511627776) (hm : ls.flatten.length ≤ 1099511627776) : Fq G [] 67 #[v] (fun v l1 nw => l1 = [] ∧ ∃ v', v = v' ∧ OwnS 5 1 v' ls.flatten.length (ls.flatten.map by8) nw) := by
 have hvl := hL.1
 have hup := z8F ls
 refine QfN Tryz.func67 ?_
 refine (gc)<|(gc)<|(ge)<|(QC hv)<|(Qm)<|Qn<|Qb ?_
 refine QzK [(0, _), (2, _), (9, _), (10, _)] [] (fun kk E m => ∃ (i : Nat) (s : Nat), kk = vs.length - i ∧ E = [(3, ii s), (11, ii i)] ∧ m = [] ∧ (i ≤ vs.length) ∧ (s = (ZW ls i).length)) ⟨0, 0, rfl, rfl, rfl, by omega, rfl⟩ ⟨rfl, rfl, rfl, rfl, rfl, rfl, trivial⟩ trivial ?_
 rintro kk E m ⟨i, s, rfl, rfl, rfl, hf0_0, hf0_1⟩
 simp only [zq, zx]
 have hs1 := hup (i + 1)
 have hs2 : i < ls.length → (ZW ls (i + 1)).length = (ZW ls i).length + (ls.getD i []).length := fun h => by rw [wg h, List.length_append]
 refine (gq) ?_
 refine (Qcd) (fun hc0=>?_) fun hc0=>?_
 ·have hc0 : i < vs.length := by omega
  refine Qk<|Qs<|Qb<|(g4) ?_
  refine yf hv (Uu 154) (Uz 22) rfl rfl (by omega) rfl ?_
  refine (QS) ?_
  refine zS hv ze (Uu 22) rfl rfl (xz (by omega)) rfl ?_
  refine (gm)<|(Qm)<|(QC (hL.2 i (by omega))) ?_
  refine y3 rfl rfl rfl (by have := hs2 (by omega); omega) ?_
  refine (gm)<|(Ql)<|(j8)<|(gl) ?_
  refine QzL ⟨i + 1, _, rfl, rfl, rfl, by omega, (by rw [wg (by omega), List.length_append, hf0_1])⟩ ⟨rfl, rfl, rfl, rfl, rfl, rfl, trivial⟩ trivial ?_
  omega
 ·have hz0 : i = vs.length := by omega
  refine Qe<|Qs<|QR ⟨[], 4, [], none, none⟩<|(Qm) ?_
  refine zG 0 (fun v => v) rfl rfl (Un 109) ze (zg7 s (by have := hup i; omega)) (by decide) rfl rfl rfl fun v2_1 oz2_1 ho2_1 => ?_
  refine (g3)<|(ge)<|(QC hv)<|(Qm)<|Qn<|Qb ?_
  refine QzK [(0, _), (2, _), (3, _), (9, _), (10, _), (11, _), (25, _), (26, _)] [] (fun kk E m => ∃ (j : Nat) (w : Value) (oz : Option Blk), kk = vs.length - j ∧ E = [(6, w), (27, ii j)] ∧ m = [(0, oz)] ∧ (j ≤ vs.length) ∧ (OwnS 5 1 w (ZW ls j).length ((ZW ls j).map by8) (Option.toList oz))) ⟨0, v2_1, oz2_1, rfl, rfl, rfl, by omega, ho2_1⟩ ⟨rfl, rfl, rfl, rfl, rfl, rfl, rfl, rfl, rfl, rfl, trivial⟩ ⟨rfl, trivial⟩ ?_
  rintro kk E m ⟨j, w, oz, rfl, rfl, rfl, hf1_0, hf1_1⟩
  simp only [zq, zx]
  have hs3 := hup (j + 1)
  have hs4 : j < ls.length → (ZW ls (j + 1)).length = (ZW ls j).length + (ls.getD j []).length := fun h => by rw [wg h, List.length_append]
  refine (gq) ?_
  refine (Qcd) (fun hc2=>?_) fun hc2=>?_
  ·have hc2 : j < vs.length := by omega
   refine Qk<|Qs<|Qb<|(g4) ?_
   refine yf hv (Uu 154) (Uz 22) rfl rfl (by omega) rfl ?_
   refine (QS) ?_
   refine zS hv ze (Uu 22) rfl rfl (xz (by omega)) rfl ?_
   refine (g3)<|Qp<|(gb) ?_
   refine yB 0 hf1_1 (hL.2 j (by omega)) rfl ze (Uu 22) (Uz 5) (Uy 5) (Ub 5) (by rfl) rfl rfl vm (by have := hs4 (by omega); simp only [maxLen]; omega) (by have := hs4 (by omega); omega) rfl fun v3_2 oz3_2 ho3_2 => ?_
   refine (jb) ?_
   refine QzL ⟨j + 1, _, _, rfl, rfl, rfl, by omega, (zy ho3_2 (by rw [wg (by omega), List.length_append]) (by rw [wg (by omega), List.map_append]))⟩ ⟨rfl, rfl, rfl, rfl, rfl, rfl, rfl, rfl, rfl, rfl, trivial⟩ ⟨rfl, trivial⟩ ?_
   omega
  ·have hz1 : j = vs.length := by omega
   refine Qe<|(g6)<|(gt) ?_
   exact ⟨_, _, _, 0, rfl, yt, (zy hf1_1 (by rw [hz1, hvl, XN]) (by rw [hz1, hvl, XN])), rfl⟩
theorem z5k (n : Nat) : Fq G [] 242 #[ii n] (fun v l1 nw => l1 = [] ∧ ∃ v', v = v' ∧ OwnS 5 1 v' ((16 - n % 16) % 16) ((zrs ((16 - n % 16) % 16)).map by8) nw) := by
 refine QfN Tryz.func242 ?_
 refine (gc)<|(g6)<|(Q4 16) ?_
 refine xR (p := 16) rfl rfl rfl (by omega) (by omega) ?_
 refine (Q4 16) ?_
 refine z3l 0 (Uu 22) (Uz 5) (Uy 5) (Ub 5) rfl rfl rfl (by omega) (by omega) rfl fun r1 => ?_
 refine (gt) ?_
 exact ⟨_, _, _, 0, rfl, yt, (Yi (wu _) (by simp only [maxLen]; omega) (fun j hj => zdQ hj)), rfl⟩
theorem z1C (n : Nat) : Fq G [] 243 #[ii n] (fun v l1 nw => l1 = [] ∧ ∃ v', v = v' ∧ OwnS 5 1 v' 8 ((xP n 8).map by8) nw) := by
 refine QfN Tryz.func243 ?_
 refine (gc)<|(g4) ?_
 refine z3l 0 (l := 8) (Uu 22) (Uz 5) (Uy 5) (Ub 5) rfl rfl rfl (by omega) (by omega) rfl fun r1 => ?_
 refine (g3)<|(ge) ?_
 refine z95 (Uu 22) rfl rfl rfl ?_
 refine (Qm)<|Qn<|Qb ?_
 refine QzK [(0, _), (2, _), (3, _), (7, _)] [] (fun kk E m => ∃ (i : Nat) (s : Nat → Nat), kk = 8 - i ∧ E = [(8, ii i)] ∧ m = [(0, some ⟨r1, arr .u8 8 s, 5⟩)] ∧ (i ≤ 8) ∧ (∀ t, t < i → s t = (xP n 8).getD t 0)) ⟨0, fun _ => 0, rfl, rfl, rfl, by omega, fun t ht => absurd ht (Nat.not_lt_zero t)⟩ ⟨rfl, rfl, rfl, rfl, rfl, trivial⟩ ⟨rfl, trivial⟩ ?_
 rintro kk E m ⟨i, s, rfl, rfl, rfl, hf0_0, hf0_1⟩
 simp only [zq, zx]
 refine (gq) ?_
 refine (Qcd) (fun hc0=>?_) fun hc0=>?_
 ·have hc0 : i < 8 := by omega
  refine (jr)<|(g3)<|Qp<|(gb)<|(gb)<|(Q7 8) ?_
  refine z38 rfl rfl rfl (by omega) ?_
  refine yY (Uu 3) (Uu 5) rfl rfl rfl ?_
  refine z32 (i) (Uu 22) (Uz 5) rfl rfl (by omega) (by omega) rfl ?_
  refine (Qu 0)<|(jc) ?_
  refine QzL ⟨i + 1, upd s i _, rfl, rfl, rfl, by omega, yN hf0_1 (ziV n (by omega))⟩ ⟨rfl, rfl, rfl, rfl, rfl, trivial⟩ ⟨rfl, trivial⟩ ?_
  omega
 ·have hz0 : i = 8 := by omega
  subst hz0
  refine Qe<|(g6)<|(gt) ?_
  exact ⟨_, _, _, 0, rfl, yt, (Yi (zK n 8) (by decide) hf0_1), rfl⟩
theorem XB (x s : Nat) (hs : s < 32) : Fp G 206 #[uw x, ii s] (uw (wj x s)) := by
 refine Qf1 Tryz.func206 ?_
 refine (gc)<|(g6) ?_
 refine xx (Uu 3) (Uu 158) rfl rfl rfl ?_
 refine (Au (Nat.mod_eq_of_lt (show s < 18446744073709551616 by omega)))<|(Q9 31) ?_
 refine (Au (zkd hs))<|(gm)<|(Qm) ?_
 refine vn rfl rfl rfl (by omega) ?_
 refine (gb) ?_
 refine xX (p := 32) rfl rfl rfl (by omega) ?_
 refine (Au (show (32 + 18446744073709551616 - s) % 18446744073709551616 = 32 - s by omega)) ?_
 refine Z4 rfl rfl rfl (by omega) ?_
 refine ZJ rfl rfl rfl  ?_
 refine (gt) ?_
 exact ⟨_, rfl, yt⟩
theorem z17 (f : NN) (r a b c d : Nat) (ha : a < 16) (hb : b < 16) (hc : c < 16) (hd : d < 16) : Fq G [⟨r, arr .u32 16 f, 290⟩] 250 #[ii a, ii b, ii c, ii d, ptr r] (fun v l1 nw => v = .tuple #[] ∧ l1 = [⟨r, arr .u32 16 (qst f a b c d), 290⟩] ∧ nw = []) := by
 refine QfW Tryz.func250 ?_
 refine (gr)<|(Qm)<|(gu)<|(Qm)<|(gu)<|(Qaw)<|(jj)<|(jf)<|(gb)<|(gu)<|(Qm)<|(gu)<|(Qxw) ?_
 refine zd rfl (Un 206) (XB _ _ (by decide)) rfl rfl ?_
 refine (jj)<|(jf)<|(Qm)<|(gu)<|(Qm)<|(gu)<|(Qaw)<|(jj)<|(jf)<|(gb)<|(gu)<|(Qm)<|(gu)<|(Qxw) ?_
 refine zd rfl (Un 206) (XB _ _ (by decide)) rfl rfl ?_
 refine (jj)<|(jf)<|(Qm)<|(gu)<|(Qm)<|(gu)<|(Qaw)<|(jj)<|(jf)<|(gb)<|(gu)<|(Qm)<|(gu)<|(Qxw) ?_
 refine zd rfl (Un 206) (XB _ _ (by decide)) rfl rfl ?_
 refine (jj)<|(jf)<|(Qm)<|(gu)<|(Qm)<|(gu)<|(Qaw)<|(jj)<|Qn<|(Qg)<|(gb)<|(gu)<|(Qm)<|(gu)<|(Qxw) ?_
 refine zd rfl (Un 206) (XB _ _ (by decide)) rfl rfl ?_
 refine (jj)<|Qn ?_
 exact ⟨rfl, 0, rfl⟩
theorem zb5 (f : NN) : Fp G 238 #[.agg (arr .u32 16 f)] (.agg (arr .u32 16 (Vl f 10))) := by
 refine Qf1 Tryz.func238 ?_
 refine (g4)<|(Qh 0) fun r1=>(QH 1) fun r2=>(gj)<|(QY)<|(g3)<|(ji) ?_
 refine Qz (fun kk E m => ∃ (n : Nat), kk = 10 - n ∧ E = [(1, ptr r1), (2, ptr r2), (3, .func (.func 250) #[] #[ptr r1]), (7, ii n)] ∧ m = [(0, some ⟨r1, arr .u32 16 (z9K f n), 290⟩), (1, some ⟨r2, arr .u32 16 (fun _ => 0), 290⟩)] ∧ (n ≤ 10)) ⟨0, rfl, rfl, rfl, by omega⟩ ⟨rfl, rfl, rfl, rfl, trivial⟩ ⟨rfl, rfl, trivial⟩ ?_
 rintro kk E m ⟨n, rfl, rfl, rfl, hf0_0⟩
 refine (gq) ?_
 refine (Qcd) (fun hc0=>?_) fun hc0=>?_
 ·refine Qk<|Qs<|Qb<|Qs<|Qs<|Qp<|(Qm)<|Qn<|Qb ?_
  refine Qz (fun kk E m => ∃ (i : Nat), kk = 4 - i ∧ E = [(1, ptr r1), (2, ptr r2), (3, .func (.func 250) #[] #[ptr r1]), (7, ii n), (9, ii i)] ∧ m = [(0, some ⟨r1, arr .u32 16 (zas (z9K f n) i), 290⟩), (1, some ⟨r2, arr .u32 16 (fun _ => 0), 290⟩)] ∧ (i ≤ 4)) ⟨0, rfl, rfl, rfl, by omega⟩ ⟨rfl, rfl, rfl, rfl, rfl, trivial⟩ ⟨rfl, rfl, trivial⟩ ?_
  rintro kk E m ⟨i, rfl, rfl, rfl, hf1_0⟩
  refine (gq) ?_
  refine (Qcd) (fun hc1=>?_) fun hc1=>?_
  ·refine Qk<|Qs<|Qb<|Qs<|Qp<|(Qm)<|(Qa)<|Qn<|QR ⟨[], 5, [], none, none⟩<|(Qm)<|(Qm)<|(Qm) ?_
   refine y3 (p := 4) rfl rfl rfl (by omega) ?_
   refine (Qm) ?_
   refine y3 (p := 8) rfl rfl rfl (by omega) ?_
   refine (Qm) ?_
   refine y3 (p := 12) rfl rfl rfl (by omega) ?_
   refine VH 0 rfl rfl (Un 250) rfl (by simp) (z17 (G := []) _ r1 i (4 + i) (8 + i) (12 + i) (by omega) (by omega) (by omega) (by omega)) rfl rfl ?_
   refine (jc) ?_
   refine Qzr ⟨i + 1, rfl, rfl, rfl, by omega⟩ ⟨rfl, rfl, rfl, rfl, rfl, trivial⟩ ⟨rfl, rfl, trivial⟩ ?_
   omega
  ·have hz1 : i = 4 := by omega
   subst hz1
   refine Qe<|(g6)<|Qn<|Qb ?_
   refine Qz (fun kk E m => ∃ (j : Nat), kk = 4 - j ∧ E = [(1, ptr r1), (2, ptr r2), (3, .func (.func 250) #[] #[ptr r1]), (7, ii n), (22, ii j)] ∧ m = [(0, some ⟨r1, arr .u32 16 (zc2 (zas (z9K f n) 4) j), 290⟩), (1, some ⟨r2, arr .u32 16 (fun _ => 0), 290⟩)] ∧ (j ≤ 4)) ⟨0, rfl, rfl, rfl, by omega⟩ ⟨rfl, rfl, rfl, rfl, rfl, trivial⟩ ⟨rfl, rfl, trivial⟩ ?_
   rintro kk E m ⟨j, rfl, rfl, rfl, hf2_0⟩
   refine (gq) ?_
   refine (Qcd) (fun hc2=>?_) fun hc2=>?_
   ·refine Qk<|Qs<|Qb<|Qs<|Qp<|(Qm)<|(Qa)<|Qn<|QR ⟨[], 5, [], none, none⟩<|(Qm)<|(Qm)<|(Qm)<|(Q2 1)<|(Q4 4) ?_
    refine y3 (p := 4) rfl rfl rfl (by omega) ?_
    refine (Qm)<|(Q2 2)<|(Q4 4) ?_
    refine y3 (p := 8) rfl rfl rfl (by omega) ?_
    refine (Qm)<|(Q2 3)<|(Q4 4) ?_
    refine y3 (p := 12) rfl rfl rfl (by omega) ?_
    refine VH 0 rfl rfl (Un 250) rfl (by simp) (z17 (G := []) _ r1 j (4 + (j + 1) % 4) (8 + (j + 2) % 4) (12 + (j + 3) % 4) (by omega) (by omega) (by omega) (by omega)) rfl rfl ?_
    refine (jc) ?_
    refine Qzr ⟨j + 1, rfl, rfl, rfl, by omega⟩ ⟨rfl, rfl, rfl, rfl, rfl, trivial⟩ ⟨rfl, rfl, trivial⟩ ?_
    omega
   ·have hz2 : j = 4 := by omega
    subst hz2
    refine Qe<|(gl) ?_
    refine Qzr ⟨n + 1, rfl, rfl, rfl, by omega⟩ ⟨rfl, rfl, rfl, rfl, trivial⟩ ⟨rfl, rfl, trivial⟩ ?_
    omega
 ·have hz0 : n = 10 := by omega
  subst hz0
  refine (jo)<|(Qd 0)<|(j4)<|Qr ?_
  rw [← zh (k := .u32) (n := 16) (z2d f 10)]
  exact ⟨_, rfl, ya 1⟩
theorem zeD (k : NN) (c : Nat) (nn : NN) (hk : L8 32 k) (hn : L8 12 nn) (hc : c < 4294967296) : Fp G 237 #[.agg (arr .u8 32 k), uw c, .agg (arr .u8 12 nn)] (.agg (arr .u32 16 (wrd (Wz k c nn)))) := by
 refine Qf1 Tryz.func237 ?_
 refine (g4)<|(Qh 0) fun r1=>(Qh 1) fun r2=>(QH 2) fun r3=>Qn<|(g6) ?_
 refine zV (arr .u32 16 (fun t => if t = 0 then 1634760805 else if t = 1 then 857760878 else if t = 2 then 2036477234 else if t = 3 then 1797285236 else if t = 12 then c else 0)) (Ub 290 rfl) (Uu 290 rfl) (Uz 109 rfl) rfl (by kernel_rfl) rfl ?_
 refine (QH 3) fun r4=>(Qt 3)<|Qn<|(gs)<|(Qd 0)<|(Qm)<|Qn<|Qb ?_
 refine Qz (fun kk E m => ∃ (i : Nat) (s : Nat → Nat), kk = 32 - i ∧ E = [(3, ptr r1), (5, ptr r2), (6, ptr r3), (7, ptr r4), (14, .agg (arr .u8 32 k)), (15, ii i)] ∧ m = [(0, some ⟨r1, arr .u8 32 k, 30⟩), (1, some ⟨r2, arr .u8 12 nn, 146⟩), (2, some ⟨r3, arr .u32 16 (fun _ => 0), 290⟩), (3, some ⟨r4, arr .u32 16 s, 290⟩)] ∧ (i ≤ 32) ∧ (∀ t, t < 16 → s t = stw k c nn i 0 t)) ⟨0, (fun t => if t = 0 then 1634760805 else if t = 1 then 857760878 else if t = 2 then 2036477234 else if t = 3 then 1797285236 else if t = 12 then c else 0), rfl, rfl, rfl, by omega, z9D k c nn⟩ ⟨rfl, rfl, rfl, rfl, rfl, rfl, trivial⟩ ⟨rfl, rfl, rfl, rfl, trivial⟩ ?_
 rintro kk E m ⟨i, s, rfl, rfl, rfl, hf0_0, hf0_1⟩
 refine (gq) ?_
 refine (Qcd) (fun hc0=>?_) fun hc0=>?_
 ·refine Qk<|Qs<|Qb<|Qs<|Qp<|(Qm)<|(QX)<|(Qa)<|(Qa)<|Qn<|(Qg)<|(Qm)<|(Q5 4) ?_
  refine y3 (p := 4) rfl rfl rfl (by omega) ?_
  refine (Qi)<|(jl)<|(Qcw) ?_
  refine z6 (congrArg uw (Nat.mod_eq_of_lt (Nat.lt_trans (hk i (by omega)) (by decide)))) ?_
  refine (Qm)<|(Q4 4)<|(Q6 8) ?_
  refine vn rfl rfl rfl (by omega) ?_
  refine ZJ rfl rfl rfl  ?_
  refine (Qi)<|(Qu 3)<|(jc) ?_
  refine Qzr ⟨i + 1, upd s (4 + i / 4) _, rfl, rfl, rfl, by omega, zgH hk (by omega) hf0_1⟩ ⟨rfl, rfl, rfl, rfl, rfl, rfl, trivial⟩ ⟨rfl, rfl, rfl, rfl, trivial⟩ ?_
  omega
 ·have hz0 : i = 32 := by omega
  subst hz0
  refine Qe<|(gs)<|(Qd 1)<|(Qm)<|Qn<|Qb ?_
  refine Qz (fun kk E m => ∃ (q : Nat) (s2 : Nat → Nat), kk = 12 - q ∧ E = [(3, ptr r1), (5, ptr r2), (6, ptr r3), (7, ptr r4), (33, .agg (arr .u8 12 nn)), (34, ii q)] ∧ m = [(0, some ⟨r1, arr .u8 32 k, 30⟩), (1, some ⟨r2, arr .u8 12 nn, 146⟩), (2, some ⟨r3, arr .u32 16 (fun _ => 0), 290⟩), (3, some ⟨r4, arr .u32 16 s2, 290⟩)] ∧ (q ≤ 12) ∧ (∀ t, t < 16 → s2 t = stw k c nn 32 q t)) ⟨0, s, rfl, rfl, rfl, by omega, hf0_1⟩ ⟨rfl, rfl, rfl, rfl, rfl, rfl, trivial⟩ ⟨rfl, rfl, rfl, rfl, trivial⟩ ?_
  rintro kk E m ⟨q, s2, rfl, rfl, rfl, hf1_0, hf1_1⟩
  refine (gq) ?_
  refine (Qcd) (fun hc1=>?_) fun hc1=>?_
  ·refine Qk<|Qs<|Qb<|Qs<|Qp<|(Qm)<|(QX)<|(Qa)<|(Qa)<|Qn<|(Qg)<|(Qm)<|(Q5 4) ?_
   refine y3 (p := 13) rfl rfl rfl (by omega) ?_
   refine (Qi)<|(jl)<|(Qcw) ?_
   refine z6 (congrArg uw (Nat.mod_eq_of_lt (Nat.lt_trans (hn q (by omega)) (by decide)))) ?_
   refine (Qm)<|(Q4 4)<|(Q6 8) ?_
   refine vn rfl rfl rfl (by omega) ?_
   refine ZJ rfl rfl rfl  ?_
   refine (Qi)<|(Qu 3)<|(jc) ?_
   refine Qzr ⟨q + 1, upd s2 (13 + q / 4) _, rfl, rfl, rfl, by omega, za2 hn (by omega) hf1_1⟩ ⟨rfl, rfl, rfl, rfl, rfl, rfl, trivial⟩ ⟨rfl, rfl, rfl, rfl, trivial⟩ ?_
   omega
  ·have hz1 : q = 12 := by omega
   subst hz1
   refine (jo)<|(Qd 3)<|(Qt 2)<|Qn<|Qr ?_
   rw [← zh (k := .u32) (n := 16) (zhA k nn hc), ← zh (k := .u32) (n := 16) hf1_1]
   exact ⟨_, rfl, ya 2⟩
theorem z5l (k : NN) (c : Nat) (nn : NN) (hk : L8 32 k) (hn : L8 12 nn) (hc : c < 4294967296) : Fp G 224 #[.agg (arr .u8 32 k), uw c, .agg (arr .u8 12 nn)] (.agg (arr .u8 64 (Y4 k c nn))) := by
 obtain ⟨w, hw⟩ : ∃ w, w = wrd (Wz k c nn) := ⟨_, rfl⟩
 obtain ⟨v, hv⟩ : ∃ v, v = Vl (wrd (Wz k c nn)) 10 := ⟨_, rfl⟩
 refine Qf1 Tryz.func224 ?_
 refine (g4)<|(Qh 0) fun r1=>(Qh 1) fun r2=>(QH 2) fun r3=>(gj)<|(Qd 0)<|(Qm)<|(Qd 1) ?_
 refine (Ca (zeD k c nn hk hn hc)) ?_
 refine z6 (congrArg (fun f => Value.agg (arr .u32 16 f)) hw.symm) ?_
 refine (QH 3) fun r4=>(Qt 3)<|(gj)<|(Qd 3) ?_
 refine (Ca (zb5 w)) ?_
 refine z6 (congrArg (fun f => Value.agg (arr .u32 16 f)) (show Vl w 10 = v by rw [hv, hw])) ?_
 refine (QH 4) fun r5=>(Qt 4)<|(gj)<|(QH 5) fun r6=>Qn<|(ji) ?_
 refine Qz (fun kk E m => ∃ (i : Nat) (s : Nat → Nat), kk = 64 - i ∧ E = [(6, ptr r3), (7, ptr r4), (8, ptr r5), (9, ptr r6), (17, ii i)] ∧ m = [(0, some ⟨r1, arr .u8 32 k, 30⟩), (1, some ⟨r2, arr .u8 12 nn, 146⟩), (2, some ⟨r3, arr .u8 64 (fun _ => 0), 111⟩), (3, some ⟨r4, arr .u32 16 w, 290⟩), (4, some ⟨r5, arr .u32 16 v, 290⟩), (5, some ⟨r6, arr .u8 64 s, 111⟩)] ∧ (i ≤ 64) ∧ (∀ t, t < i → s t = Y4 k c nn t)) ⟨0, fun _ => 0, rfl, rfl, rfl, by omega, fun t ht => absurd ht (Nat.not_lt_zero t)⟩ ⟨rfl, rfl, rfl, rfl, rfl, trivial⟩ ⟨rfl, rfl, rfl, rfl, rfl, rfl, trivial⟩ ?_
 rintro kk E m ⟨i, s, rfl, rfl, rfl, hf0_0, hf0_1⟩
 refine (gq) ?_
 refine (Qcd) (fun hc0=>?_) fun hc0=>?_
 ·refine Qk<|Qs<|Qb<|Qs<|Qp<|(Qm)<|(Qa)<|Qn<|(Qg)<|(Qm)<|(Qm)<|(Q5 4)<|(Qi)<|(Q1 4)<|(Qm)<|(Q5 4)<|(Qi)<|(Q1 3) ?_
  refine (Qaw)<|(Qm)<|(Q4 4)<|(Q6 8) ?_
  refine Z4 rfl rfl rfl (by omega) ?_
  refine yY (Uu 109) (Uu 5) rfl rfl rfl ?_
  refine (Qi)<|(Qu 5)<|(jc) ?_
  refine Qzr ⟨i + 1, upd s i _, rfl, rfl, rfl, by omega, yN hf0_1 (zis k c nn hv hw (by omega))⟩ ⟨rfl, rfl, rfl, rfl, rfl, trivial⟩ ⟨rfl, rfl, rfl, rfl, rfl, rfl, trivial⟩ ?_
  omega
 ·have hz0 : i = 64 := by omega
  subst hz0
  refine (jo)<|(Qd 5)<|(Qt 2)<|Qn<|Qr ?_
  rw [← zh (k := .u8) (n := 64) hf0_1]
  exact ⟨_, rfl, ya 2⟩
theorem zbH (n : Nat) (hn : n < 9223372036854775808) : Fp G 236 #[ii n] (u ((n + 63) / 64)) := by
 refine Qf1 Tryz.func236 ?_
 refine (gc)<|(g6) ?_
 refine xx (Uu 3) (Uu 31) rfl rfl rfl ?_
 refine (Au (Nat.mod_eq_of_lt (show n < 18446744073709551616 by omega))) ?_
 refine wM (q := 63) rfl rfl rfl  ?_
 refine (Au (Nat.mod_eq_of_lt (show n + 63 < 18446744073709551616 by omega))) ?_
 refine YH (q := 64) rfl rfl rfl (by omega) (by omega) ?_
 refine (gt) ?_
 exact ⟨_, rfl, yt⟩
theorem z9H (k : NN) (c : Nat) (nn : NN) (v : Value) (l : LN) (hv : Sh G v l) (hk : L8 32 k) (hn : L8 12 nn) (hc : c < 4294967296) (hl : l.length ≤ 1600) (ho : ¬ 64 * (4294967296 - c) < l.length) : Fq G [] 223 #[.agg (arr .u8 32 k), uw c, .agg (arr .u8 12 nn), v] (fun v l1 nw => l1 = [] ∧ ∃ v', v = .tuple #[v', ii 0] ∧ OwnS 5 1 v' (l.length - 0) ((ww k c nn l 0).map by8) nw) := by
 refine QfM Tryz.func223 ?_
 refine (g4)<|(Qh 0) fun r1=>(Qh 1) fun r2=>(ja)<|(QC hv)<|(QG)<|(j8)<|(ge) ?_
 refine xx (Uu 109) (Uu 31) rfl rfl rfl ?_
 refine (Au (Nat.mod_eq_of_lt (show c < 18446744073709551616 by omega)))<|(Qm)<|(QC hv) ?_
 refine zd rfl (Un 236) (zbH _ (by omega)) rfl rfl ?_
 refine (Qau) ?_
 refine (Au (Nat.mod_eq_of_lt (show c + (l.length + 63) / 64 < 18446744073709551616 by omega)))<|(QG)<|(j8)<|(g6)<|(QC hv) ?_
 refine z3l 2 (Uu 22) (Uz 5) (Uy 5) (Ub 5) rfl rfl rfl (by omega) (by omega) rfl fun r3 => ?_
 refine (j3)<|(QH 3) fun r4=>Qn<|(ge)<|(QC hv)<|(Qm)<|Qn<|Qb ?_
 refine Qz (fun kk E m => ∃ (i : Nat) (s : Nat → Nat) (p : Nat → Nat), kk = l.length - i ∧ E = [(1, uw c), (4, ptr r1), (6, ptr r2), (10, .slice (some ⟨r3, 0, none⟩) l.length l.length), (11, ptr r4), (27, v), (28, ii l.length), (29, ii i)] ∧ m = [(0, some ⟨r1, arr .u8 32 k, 30⟩), (1, some ⟨r2, arr .u8 12 nn, 146⟩), (2, some ⟨r3, arr .u8 l.length s, 5⟩), (3, some ⟨r4, arr .u8 64 p, 111⟩)] ∧ (i ≤ l.length) ∧ (∀ t, t < i → s t = z1k k c nn l t) ∧ (i % 64 ≠ 0 → ∀ t, t < 64 → p t = Y4 k ((c + i / 64 % 4294967296) % 4294967296) nn t)) ⟨0, fun _ => 0, fun _ => 0, rfl, rfl, rfl, by omega, fun t ht => absurd ht (Nat.not_lt_zero t), fun h => absurd rfl h⟩ ⟨rfl, rfl, rfl, rfl, rfl, rfl, rfl, rfl, trivial⟩ ⟨rfl, rfl, rfl, rfl, trivial⟩ ?_
 rintro kk E m ⟨i, s, p, rfl, rfl, rfl, hf0_0, hf0_1, hf0_2⟩
 refine (gq) ?_
 refine (Qcd) (fun hc2=>?_) fun hc2=>?_
 ·refine Qk<|Qs<|Qb<|Qs<|Qp<|(Qm) ?_
  refine yf hv (Uu 22) (Uz 5) rfl rfl (by omega) rfl ?_
  refine (QS) ?_
  refine zS hv ze (Uu 5) rfl rfl (z91 (show i < l.length by omega)) rfl ?_
  refine (ja)<|(Q4 64)<|(Qc)<|Qn ?_
  refine (Qcd) (fun hc3=>?_) fun hc3=>?_
  ·refine Qp<|(Qd 0)<|(Qm)<|(Qm)<|(Q5 64) ?_
   refine (Qcw)<|(Qaw)<|(Qd 1) ?_
   refine zd rfl (Un 224) (z5l k _ nn hk hn (Nat.mod_lt _ (by decide))) rfl rfl ?_
   refine (Qt 3)<|Qn<|Qp<|(gb)<|(gb)<|(Q4 64)<|(Qi)<|(Q1 3) ?_
   refine Z0 rfl rfl rfl  ?_
   refine z32 (i) (Uu 22) (Uz 5) rfl rfl (by omega) (by omega) rfl ?_
   refine (Qu 2)<|(jc) ?_
   refine Qzr ⟨i + 1, upd s i _, _, rfl, rfl, rfl, by omega, yN hf0_1 (z9l k c nn _ l (by omega) (by first | rfl | exact hf0_2 (by omega) _ (by omega))), fun h t ht => by rw [show (i + 1) / 64 = i / 64 by omega] <;> exact hf0_2 (by omega) t ht⟩ ⟨rfl, rfl, rfl, rfl, rfl, rfl, rfl, rfl, trivial⟩ ⟨rfl, rfl, rfl, rfl, trivial⟩ ?_
   omega
  ·refine Qk<|Qp<|(Qm)<|(Qm)<|(Qm)<|(Qm)<|(Q4 64)<|(Qi)<|(Q1 3) ?_
   refine Z0 rfl rfl rfl  ?_
   refine z32 (i) (Uu 22) (Uz 5) rfl rfl (by omega) (by omega) rfl ?_
   refine (Qu 2)<|(jc) ?_
   refine Qzr ⟨i + 1, upd s i _, _, rfl, rfl, rfl, by omega, yN hf0_1 (z9l k c nn _ l (by omega) (by first | rfl | exact hf0_2 (by omega) _ (by omega))), fun h t ht => by rw [show (i + 1) / 64 = i / 64 by omega] <;> exact hf0_2 (by omega) t ht⟩ ⟨rfl, rfl, rfl, rfl, rfl, rfl, rfl, rfl, trivial⟩ ⟨rfl, rfl, rfl, rfl, trivial⟩ ?_
   omega
 ·have hz2 : i = l.length := by omega
  subst hz2
  refine Qe<|(g6)<|(h8) ?_
  exact ⟨_, _, _, _, 2, rfl, yt, yt, (zy (Yi (xv k c nn l 0) (by simp only [maxLen]; omega) (fun j hj => (hf0_1 j (by omega)).trans (zhD k c nn l (by omega)).symm)) rfl rfl), rfl⟩
theorem WZ : Fp G 261 #[] (f3 QQ) := by
 refine Qf1 Tryz.func261 ?_
 refine (g4)<|(QH 0) fun r1=>(gj) ?_
 refine zV (arr .u64 3 (wd QQ)) (Ub 310 rfl) (Uu 310 rfl) (Uz 31 rfl) rfl (by kernel_rfl) rfl ?_
 refine (Qt 0)<|Qn<|Qr ?_
 exact ⟨_, rfl, ya 0⟩
theorem z0r (f : NN) (hf : L8 16 f) : Fp G 253 #[.agg (arr .u8 16 f)] (f2 (vb f 16)) := by
 refine Qf1 Tryz.func253 ?_
 refine (g4)<|(Qh 0) fun r1=>(QH 1) fun r2=>(gj)<|(QH 2) fun r3=>Qn<|(gs)<|(Qd 0)<|(Qm)<|Qn<|Qb ?_
 refine QzK [(2, _), (3, _), (6, _)] [(0, _), (1, _)] (fun kk E m => ∃ (k : Nat) (s : Nat → Nat), kk = 16 - k ∧ E = [(7, ii k)] ∧ m = [(2, some ⟨r3, arr .u64 2 s, 244⟩)] ∧ (k ≤ 16) ∧ (∀ j, j < 4 → s j = wd (vb f k) j)) ⟨0, fun _ => 0, rfl, rfl, rfl, by omega, fun j _ => by simp [vb, wd]⟩ ⟨rfl, rfl, rfl, rfl, trivial⟩ ⟨rfl, rfl, rfl, trivial⟩ ?_
 rintro kk E m ⟨k, s, rfl, rfl, rfl, hf0_0, hf0_1⟩
 simp only [zq, zx]
 refine (gq) ?_
 refine (Qcd) (fun hc0=>?_) fun hc0=>?_
 ·have hc0 : k < 16 := by omega
  refine (jr)<|(QX)<|(g8)<|(Qg)<|(Qm)<|(Q5 8)<|(Qi)<|(Q1 2)<|(Qm) ?_
  refine xx (Uu 5) (Uu 31) rfl rfl rfl ?_
  refine (Qm)<|(Q4 8)<|(Q6 8) ?_
  refine w9 rfl rfl rfl (by omega) ?_
  refine v3 rfl rfl rfl  ?_
  refine (Qi)<|(Qu 2)<|(jc) ?_
  refine QzL ⟨k + 1, upd s (k / 8) _, rfl, rfl, rfl, by omega, zav (by omega) hf hf0_1⟩ ⟨rfl, rfl, rfl, rfl, trivial⟩ ⟨rfl, rfl, rfl, trivial⟩ ?_
  omega
 ·have hz0 : k = 16 := by omega
  subst hz0
  refine (jo)<|(Qd 2)<|(j4)<|Qr ?_
  rw [zi0 (fun j hj => hf0_1 j (by omega))]
  exact ⟨_, rfl, ya 1⟩
theorem wh (r : NN) : Fp G 254 #[.agg (arr .u64 2 r)] (.agg (arr .u64 2 (clf r))) := by
 refine Qf1 Tryz.func254 ?_
 refine (g4)<|(Qh 0) fun r1=>(QH 1) fun r2=>(gj)<|(Qj 0)<|(Q1 0)<|(Q9 1152921487695413247)<|(Qj 1)<|(Q1 0)<|(Q9 1152921487695413244) ?_
 refine zV (arr .u64 2 (clf r)) (Ub 244 rfl) (Uu 244 rfl) (Uz 31 rfl) rfl rfl rfl ?_
 refine (j4)<|Qr ?_
 exact ⟨_, rfl, ya 1⟩
theorem z0o (a b : Nat) : Fp G 259 #[f3 a, f3 b] (f3 (a + b)) := by
 refine Qf1 Tryz.func259 ?_
 refine (g4)<|(Qh 0) fun r1=>(Qh 1) fun r2=>(QH 2) fun r3=>(gj)<|(QH 3) fun r4=>Qn<|(gc)<|(ji) ?_
 refine QzK [(2, _), (3, _), (4, _), (5, _)] [(0, _), (1, _), (2, _)] (fun kk E m => ∃ (k : Nat) (s : Nat → Nat), kk = 3 - k ∧ E = [(6, u (car a b k)), (8, ii k)] ∧ m = [(3, some ⟨r4, arr .u64 3 s, 310⟩)] ∧ (k ≤ 3) ∧ (∀ j, j < k → s j = wd (a + b) j)) ⟨0, fun _ => 0, rfl, rfl, rfl, by omega, fun j hj => absurd hj (Nat.not_lt_zero j)⟩ ⟨by rw [z3X]; rfl, rfl, rfl, rfl, rfl, rfl, trivial⟩ ⟨rfl, rfl, rfl, rfl, trivial⟩ ?_
 rintro kk E m ⟨k, s, rfl, rfl, rfl, hf0_0, hf0_1⟩
 simp only [zq, zx]
 have hcl := zeR a b k
 refine (gq) ?_
 refine (Qcd) (fun hc0=>?_) fun hc0=>?_
 ·have hc0 : k < 3 := by omega
  refine (jr)<|(g3)<|(Qq ⟨[r4], 1, [], none, none⟩)<|(gb)<|(Qi) ?_
  refine y7 (i := 0) (Uu 31) rfl rfl rfl (zO (by omega)) rfl ⟨[3], rfl, rfl, trivial⟩ ?_
  refine (Qm)<|(Qi) ?_
  refine y7 (i := 1) (Uu 31) rfl rfl rfl (zO (by omega)) rfl ⟨[3], rfl, rfl, trivial⟩ ?_
  refine (Qm) ?_
  refine Z6 rfl (fun w => z2l _ _ _ (by omega) w) rfl rfl ?_
  refine (gi)<|(Qi) ?_
  refine xT (i := 3) (Uz 31) rfl rfl rfl (by omega) (.inr (by simp)) ?_
  refine (jb) ?_
  refine QzL ⟨k + 1, upd s k _, rfl, rfl, rfl, by omega, yN hf0_1 (z1h a b k)⟩ ⟨by rw [← z55]; rfl, rfl, rfl, rfl, rfl, rfl, trivial⟩ ⟨rfl, rfl, rfl, rfl, trivial⟩ ?_
  omega
 ·have hz0 : k = 3 := by omega
  subst hz0
  refine (jo)<|(Qd 3)<|(Qt 2)<|Qn<|Qr ?_
  rw [Y6 hf0_1]
  exact ⟨_, rfl, ya 2⟩
theorem z1D (a b : Nat) (ha : a < 2 ^ 192) (hb : b < 2 ^ 192) : Fp G 260 #[f3 a, f3 b] (.tuple #[f3 (a + 2 ^ 256 - b), u (if a < b then 1 else 0)]) := by
 have hfin : bor a b 3 = if a < b then 1 else 0 := by
  unfold bor
  rw [Nat.mod_eq_of_lt (show a < 2 ^ (64 * 3) from ha), Nat.mod_eq_of_lt (show b < 2 ^ (64 * 3) from hb)]
 refine Qf2 Tryz.func260 ?_
 refine (g4)<|(Qh 0) fun r1=>(Qh 1) fun r2=>(QH 2) fun r3=>(j3)<|(QH 3) fun r4=>Qn<|(gc)<|(ji) ?_
 refine QzK [(2, _), (3, _), (4, _), (5, _), (6, _)] [(0, _), (1, _), (2, _)] (fun kk E m => ∃ (k : Nat) (s : Nat → Nat), kk = 3 - k ∧ E = [(7, u (bor a b k)), (9, ii k)] ∧ m = [(3, some ⟨r4, arr .u64 3 s, 310⟩)] ∧ (k ≤ 3) ∧ (∀ j, j < k → s j = wd (a + 2 ^ 256 - b) j)) ⟨0, fun _ => 0, rfl, rfl, rfl, by omega, fun j hj => absurd hj (Nat.not_lt_zero j)⟩ ⟨by rw [z58]; rfl, rfl, rfl, rfl, rfl, rfl, rfl, trivial⟩ ⟨rfl, rfl, rfl, rfl, trivial⟩ ?_
 rintro kk E m ⟨k, s, rfl, rfl, rfl, hf0_0, hf0_1⟩
 simp only [zq, zx]
 have hcl := z6u a b k
 have hwl := y9 b k
 refine (gq) ?_
 refine (Qcd) (fun hc0=>?_) fun hc0=>?_
 ·have hc0 : k < 3 := by omega
  refine (jr)<|(g3)<|(Qq ⟨[r4], 1, [], none, none⟩)<|(gb)<|(Qi) ?_
  refine y7 (i := 0) (Uu 31) rfl rfl rfl (zO (by omega)) rfl ⟨[3], rfl, rfl, trivial⟩ ?_
  refine (Qm)<|(Qi) ?_
  refine y7 (i := 1) (Uu 31) rfl rfl rfl (zO (by omega)) rfl ⟨[3], rfl, rfl, trivial⟩ ?_
  refine (Qm) ?_
  refine Z6 rfl (fun w => zi6 _ _ _ (by omega) (by omega) w) rfl rfl ?_
  refine (gi)<|(Qi) ?_
  refine xT (i := 3) (Uz 31) rfl rfl rfl (by omega) (.inr (by simp)) ?_
  refine (jb) ?_
  refine QzL ⟨k + 1, upd s k _, rfl, rfl, rfl, by omega, yN hf0_1 (z5K a b k (by omega) (by omega))⟩ ⟨by rw [← z5J]; rfl, rfl, rfl, rfl, rfl, rfl, rfl, trivial⟩ ⟨rfl, rfl, rfl, rfl, trivial⟩ ?_
  omega
 ·have hz0 : k = 3 := by omega
  subst hz0
  refine (jo)<|(Qd 3)<|(Qm)<|(Qt 2)<|(gt) ?_
  rw [← hfin, Y6 hf0_1]
  exact ⟨_, _, rfl, ya 2, yt⟩
theorem Yv (a : Nat) (ha : a < 2 ^ 192) : Fp G 257 #[f3 a] (.bool (decide (a < QQ))) := by
 have hQQ := z0z
 refine Qf1 Tryz.func257 ?_
 refine (g4)<|(Qh 0) fun r1=>(g3)<|(gr)<|(Qd 0) ?_
 refine (Ca WZ) ?_
 refine zd rfl (Un 260) (z1D _ _ (by omega) (by omega)) rfl rfl ?_
 refine (gi)<|(QH 1) fun r2=>(Qt 1)<|(gm)<|(Qc) ?_
 refine z6 (z8D _ _) ?_
 refine (gt) ?_
 exact ⟨_, rfl, yt⟩
theorem z9v (a n : Nat) (hn : n ≤ 1) : Fp G 264 #[f3 a, u n] (f3 (a * n)) := by
 refine Qf1 Tryz.func264 ?_
 refine (g4)<|(Qh 0) fun r1=>(QH 1) fun r2=>Qn<|(ji) ?_
 refine QzK [(1, _), (2, _), (4, _)] [(1, _)] (fun kk E m => ∃ (k : Nat) (s : Nat → Nat), kk = 3 - k ∧ E = [(6, ii k)] ∧ m = [(0, some ⟨r1, arr .u64 3 s, 310⟩)] ∧ (k ≤ 3) ∧ (∀ j, j < k → s j = wd (a * n) j) ∧ (∀ j, k ≤ j → s j = wd a j)) ⟨0, wd a, rfl, rfl, rfl, by omega, fun j hj => absurd hj (Nat.not_lt_zero j), fun j _ => rfl⟩ ⟨rfl, rfl, rfl, rfl, trivial⟩ ⟨rfl, rfl, trivial⟩ ?_
 rintro kk E m ⟨k, s, rfl, rfl, rfl, hf0_0, hf0_1, hf0_2⟩
 simp only [zq, zx]
 refine (gq) ?_
 refine (Qcd) (fun hc0=>?_) fun hc0=>?_
 ·have hc0 : k < 3 := by omega
  refine (jr)<|(g3)<|(je)<|(gu)<|(Qm) ?_
  refine z2U rfl rfl (by omega) ?_
  refine VG rfl rfl rfl  ?_
  refine (jj)<|(jc) ?_
  refine QzL ⟨k + 1, upd s k _, rfl, rfl, rfl, by omega, yN hf0_1 (by rw [hf0_2 k (Nat.le_refl k)]; exact z4q a n k hn), YZ hf0_2⟩ ⟨rfl, rfl, rfl, rfl, trivial⟩ ⟨rfl, rfl, trivial⟩ ?_
  omega
 ·have hz0 : k = 3 := by omega
  subst hz0
  refine (jo)<|(Qd 0)<|(j4)<|Qr ?_
  rw [Y6 hf0_1]
  exact ⟨_, rfl, ya 1⟩
theorem z4v (a b c d : Nat) (ha : a < 18446744073709551616) (hb : b < 18446744073709551616) (hc : c < 18446744073709551616) (hd : d < 18446744073709551616) : Fp G 263 #[u a, u b, u c, u d] (.tuple #[u ((a * b + c + d) % 18446744073709551616), u ((a * b + c + d) / 18446744073709551616)]) := by
 have hp := z2J ha hb
 refine Qf2 Tryz.func263 ?_
 refine (g4)<|(g8)<|(g6)<|(Qm) ?_
 refine zd rfl (Un 256) (z61 _ _ (by omega) (by omega)) rfl rfl ?_
 refine (gi)<|(g8)<|(g6)<|(Qm) ?_
 refine Z6 rfl (fun w => z2l _ _ 0 (by omega) w) rfl rfl ?_
 refine (gi)<|(g8)<|(g6)<|(Qm)<|(Qau)<|(gm)<|(Qm) ?_
 refine Z6 rfl (fun w => z2l _ _ 0 (by omega) w) rfl rfl ?_
 refine (gi)<|(g8)<|(g6)<|(gb)<|(Qau)<|(h8) ?_
 rw [← z8b, ← z8O _ _ _ hp hc hd]
 exact ⟨_, _, rfl, yt, yt⟩
theorem zbR (a b : Nat) (ha : a < 2 ^ 192) (hb : b < 2 ^ 128) : Fp G 262 #[f3 a, f2 b] (.agg (arr .u64 5 (wd (a * b)))) := by
 refine Qf1 Tryz.func262 ?_
 refine (g4)<|(Qh 0) fun r1=>(Qh 1) fun r2=>(QH 2) fun r3=>(gj)<|(QH 3) fun r4=>Qn<|(ji) ?_
 refine QzK [(2, _), (3, _), (4, _), (5, _)] [(0, _), (1, _), (2, _)] (fun kk E m => ∃ (k : Nat) (s : Nat → Nat), kk = 3 - k ∧ E = [(9, ii k)] ∧ m = [(3, some ⟨r4, arr .u64 5 s, 294⟩)] ∧ (k ≤ 3) ∧ (∀ t, t < 5 → s t = wd (a % 2 ^ (64 * k) * b) t)) ⟨0, fun _ => 0, rfl, rfl, rfl, by omega, fun t _ => by simp [Nat.mod_one, wd]⟩ ⟨rfl, rfl, rfl, rfl, rfl, trivial⟩ ⟨rfl, rfl, rfl, rfl, trivial⟩ ?_
 rintro kk E m ⟨k, s, rfl, rfl, rfl, hf0_0, hf0_1⟩
 simp only [zq, zx]
 refine (gq) ?_
 refine (Qcd) (fun hc0=>?_) fun hc0=>?_
 ·have hc0 : k < 3 := by omega
  refine (jr)<|(g3)<|(gc)<|(ji) ?_
  refine QzK [(2, _), (3, _), (4, _), (5, _), (6, _), (9, _)] [(0, _), (1, _), (2, _)] (fun kk E m => ∃ (j : Nat) (s2 : Nat → Nat), kk = 2 - j ∧ E = [(7, u (wO a b k j)), (12, ii j)] ∧ m = [(3, some ⟨r4, arr .u64 5 s2, 294⟩)] ∧ (j ≤ 2) ∧ (∀ t, t < k + j → s2 t = wd (wS a b k j) t) ∧ (∀ t, k + j ≤ t → t < 5 → s2 t = wd (a % 2 ^ (64 * k) * b) t)) ⟨0, s, rfl, rfl, rfl, by omega, fun t ht => (hf0_1 t (by omega)).trans (z8o a b k t (by omega)).symm, fun t _ ht => hf0_1 t ht⟩ ⟨by rw [z3f]; rfl, rfl, rfl, rfl, rfl, rfl, rfl, rfl, trivial⟩ ⟨rfl, rfl, rfl, rfl, trivial⟩ ?_
  rintro kk E m ⟨j, s2, rfl, rfl, rfl, hf1_0, hf1_1, hf1_2⟩
  simp only [zq, zx]
  have ha1 := y9 a k
  have hb1 := y9 b j
  have ho1 := zij a b k j (by omega)
  have hs2 : j < 2 → s2 (k + j) = wd (a % 2 ^ (64 * k) * b) (k + j) := fun h => hf1_2 (k + j) (by omega) (by omega)
  refine (gq) ?_
  refine (Qcd) (fun hc1=>?_) fun hc1=>?_
  ·have hc1 : j < 2 := by omega
   refine (jr)<|(g3)<|(Qg)<|(gb)<|(Q3)<|(Qm)<|(gu)<|(Qm)<|(Qi)<|(Q1 1)<|(gb)<|(Q3)<|(Qi)<|(jl) ?_
   have hs3 := y9 (a % 2 ^ (64 * k) * b) (k + j); have hs4 := hs2 hc1
   refine zd rfl (Un 263) (z4v _ _ _ _ (by omega) (by omega) (by omega) (by omega)) rfl rfl ?_
   refine (gi)<|(Qi)<|(Qu 3)<|(jb) ?_
   refine QzL ⟨j + 1, upd s2 (k + j) _, rfl, rfl, rfl, by omega, by rw [hs2 hc1]; exact z1M hf1_1, fun t h1 h2 => by rw [← hf1_2 t (by omega) h2]; unfold upd; rw [if_neg (by omega)]⟩ ⟨by rw [← z2N, ← hs2 hc1]; rfl, rfl, rfl, rfl, rfl, rfl, rfl, rfl, trivial⟩ ⟨rfl, rfl, rfl, rfl, trivial⟩ ?_
   omega
  ·have hz1 : j = 2 := by omega
   subst hz1
   refine Qe<|(je)<|(Q2 2)<|(Qm)<|(Qi)<|(Qu 3)<|(jc) ?_
   refine QzL ⟨k + 1, upd s2 (k + 2) _, rfl, rfl, rfl, by omega, z6q hb hf1_1 hf1_2⟩ ⟨rfl, rfl, rfl, rfl, rfl, trivial⟩ ⟨rfl, rfl, rfl, rfl, trivial⟩ ?_
   omega
 ·have hz0 : k = 3 := by omega
  subst hz0
  refine (jo)<|(Qd 3)<|(Qt 2)<|Qn<|Qr ?_
  rw [Nat.mod_eq_of_lt (show a < 2 ^ (64 * 3) from ha)] at hf0_1
  rw [← zh hf0_1]
  exact ⟨_, rfl, ya 2⟩
theorem z5s (a b : Nat) (ha : a < 2 ^ 131) (hb : b < 2 ^ 124) : Fp G 258 #[f3 a, f2 b] (f3 (a * b % QQ)) := by
 obtain ⟨x, hx⟩ : ∃ x, x = a * b := ⟨_, rfl⟩
 have hx2 : x < 2 ^ 255 := by rw [hx]; exact Nat.lt_of_le_of_lt (Nat.mul_le_mul (Nat.le_of_lt_succ ha) (Nat.le_of_lt hb)) (by decide)
 obtain ⟨L, hL⟩ : ∃ L, L = x % 2 ^ 130 := ⟨_, rfl⟩
 obtain ⟨H, hH⟩ : ∃ H, H = x / 2 ^ 130 := ⟨_, rfl⟩
 have hL2 : L < 2 ^ 130 := by rw [hL]; exact Nat.mod_lt _ (by decide)
 have hH2 : H < 2 ^ 125 := by omega
 have hQQ := z0z
 obtain ⟨S, hS⟩ : ∃ S, S = L + 5 * H := ⟨_, rfl⟩
 have hS2 : S < 2 ^ 192 := by omega
 obtain ⟨t, ht⟩ : ∃ t, t = (if S < QQ then 1 else 0) := ⟨_, rfl⟩
 have ht1 : t ≤ 1 := by rw [ht]; split <;> omega
 refine Qf1 Tryz.func258 ?_
 refine (g4)<|(Qh 0) fun r1=>(Qh 1) fun r2=>(QH 2) fun r3=>(gj)<|(Qd 0)<|(Qd 1) ?_
 refine (Ca (zbR a b (by omega) (by omega))) ?_
 refine z6 (congrArg (fun z => Value.agg (arr .u64 5 (wd z))) hx.symm) ?_
 refine (QH 3) fun r4=>(Qt 3)<|(gj)<|(Qj 2)<|(Q1 3)<|(Q8 2)<|(Qj 3)<|(Q1 3) ?_
 refine w9 (s := 62) rfl rfl rfl (by omega) ?_
 refine v3 rfl rfl rfl  ?_
 refine (Au ((hi0 x).trans (by rw [← hH])))<|(Qj 3)<|(Q1 3)<|(Q8 2) ?_
 refine (Au ((hi1 hx2).trans (by rw [← hH]))) ?_
 refine zV (arr .u64 2 (wd H)) (Ub 244 rfl) (Uu 244 rfl) (Uz 31 rfl) rfl rfl rfl ?_
 refine (QH 4) fun r5=>(Qt 4)<|(gj)<|(Qj 0)<|(Q1 3) ?_
 refine (Au ((lo0 x).trans (by rw [← hL])))<|(Qj 1)<|(Q1 3) ?_
 refine (Au ((lo1 x).trans (by rw [← hL])))<|(Qj 2)<|(Q1 3)<|(Q9 3) ?_
 refine (Au ((lo2 x).trans (by rw [← hL]))) ?_
 refine zV (arr .u64 3 (wd L)) (Ub 310 rfl) (Uu 310 rfl) (Uz 31 rfl) rfl rfl rfl ?_
 refine (QH 5) fun r6=>(Qt 5)<|Qn<|(gc)<|(ji) ?_
 refine QzK [(4, _), (6, _), (7, _)] [(0, _), (1, _), (2, _), (3, _), (4, _)] (fun kk E m => ∃ (k : Nat) (s : Nat → Nat), kk = 2 - k ∧ E = [(8, u (qS L H k / 2 ^ (64 * k))), (34, ii k)] ∧ m = [(5, some ⟨r6, arr .u64 3 s, 310⟩)] ∧ (k ≤ 2) ∧ (∀ t, t < k → s t = wd (qS L H k) t) ∧ (∀ t, k ≤ t → s t = wd L t)) ⟨0, wd L, rfl, rfl, rfl, by omega, fun t ht => absurd ht (Nat.not_lt_zero t), fun t _ => rfl⟩ ⟨by rw [zgQ]; rfl, rfl, rfl, rfl, rfl, trivial⟩ ⟨rfl, rfl, rfl, rfl, rfl, rfl, trivial⟩ ?_
 rintro kk E m ⟨k, s, rfl, rfl, rfl, hf0_0, hf0_1, hf0_2⟩
 simp only [zq, zx]
 have hw1 := y9 H k
 have hw2 := y9 L k
 have hov := zkU L H k
 have hsk := hf0_2 k (Nat.le_refl k)
 refine (gq) ?_
 refine (Qcd) (fun hc0=>?_) fun hc0=>?_
 ·have hc0 : k < 2 := by omega
  refine (jr)<|(g3)<|(Qg)<|(gb)<|(Qi)<|(Q1 4)<|(Qm)<|(Qi)<|(Q1 5)<|(Qm) ?_
  refine zd rfl (Un 263) (z4v _ 5 _ _ (by omega) (by omega) (by omega) (by omega)) rfl rfl ?_
  refine (gi)<|(Qi)<|(Qu 5)<|(jb) ?_
  refine QzL ⟨k + 1, upd s k _, rfl, rfl, rfl, by omega, ziL (hf0_2 k (Nat.le_refl k)) hf0_1, YZ hf0_2⟩ ⟨by rw [← zl1, ← hsk]; rfl, rfl, rfl, rfl, rfl, trivial⟩ ⟨rfl, rfl, rfl, rfl, rfl, rfl, trivial⟩ ?_
  omega
 ·have hz0 : k = 2 := by omega
  subst hz0
  refine (jo)<|(Qj 2)<|(Q1 5)<|(Qm)<|(Qau) ?_
  refine (Au (Nat.mod_eq_of_lt (show s 2 + qS L H 2 / 2 ^ (64 * 2) < 18446744073709551616 by have := hf0_2 2 (Nat.le_refl 2); have h4 : wd L 2 < 4 := z3m hL2; omega)))<|(Qj 2)<|(Qu 5)<|(jf)<|(Qd 5) ?_
  refine z6 (show _ = f3 S by rw [hS]; exact (Y6 (zj9 hL2 hH2 hf0_1 hf0_2)).symm) ?_
  refine (Ca WZ) ?_
  refine zd rfl (Un 260) (z1D _ _ (by omega) (by omega)) rfl rfl ?_
  refine (gi) ?_
  refine (Au ht.symm)<|(QH 6) fun r7=>(Qt 6)<|(g3)<|(gr)<|(Qd 6) ?_
  refine (Ca WZ)<|(Qm) ?_
  refine zd rfl (Un 264) (z9v _ _ (by omega)) rfl rfl ?_
  refine (Ca (z0o _ _))<|(Qt 2)<|Qn<|Qr ?_
  rw [ht, ← hx, Y6 (zbM (S := S) hx2 (by rw [hS, hL, hH]))]
  exact ⟨_, rfl, ya 2⟩
theorem z5d (r p : NN) (A : Nat) (h : NN) (n : Nat) (hr0 : r 0 < 18446744073709551616) (hr1 : r 1 < 18446744073709551616) (hR : k3 r < 2 ^ 124) (hA : A < 2 ^ 130) (hn : n ≤ 16) (hh : L8 16 h) (hz : ∀ j, n ≤ j → j < 16 → h j = 0) : Fp G 252 #[PV r p (wd A) h n] (PV r p (wd (pst (k3 r) A ((List.range n).map h))) (fun _ => 0) ((0 : Nat) : Int)) := by
 obtain ⟨V, hV⟩ : ∃ V, V = vb h 16 := ⟨_, rfl⟩
 obtain ⟨B, hB⟩ : ∃ B, B = leN ((List.range n).map h ++ [1]) := ⟨_, rfl⟩
 have hB2 : B < 2 * 2 ^ 128 := by rw [hB]; exact z11 (fun b hb => by obtain ⟨j, hj, rfl⟩ := List.mem_map.1 hb; exact hh j (by have := List.mem_range.1 hj; omega)) (by simp; exact hn)
 have hps : (A + B) * k3 r % QQ = pst (k3 r) A ((List.range n).map h) := by unfold pst; rw [← hB, Nat.mod_mul_mod]
 refine Qf1 Tryz.func252 ?_
 refine (g4)<|(Qh 0) fun r1=>(QH 1) fun r2=>(gj)<|(Qf 7)<|(Qv 3 0) ?_
 refine (Ca (z0r h hh)) ?_
 refine z6 (congrArg f2 hV.symm) ?_
 refine (QH 2) fun r3=>(Qt 2)<|(gj)<|(Qj 0)<|(Q1 2)<|(Qj 1)<|(Q1 2) ?_
 refine zV (arr .u64 3 (upd (wd V) 2 0)) (Ub 310 rfl) (Uu 310 rfl) (Uz 31 rfl) rfl rfl rfl ?_
 refine (QH 3) fun r4=>(Qt 3)<|(jf)<|(Qf 23)<|(QV 4 0)<|(Q5 8)<|(Qi)<|(Q1 3)<|(Qf 23)<|(QV 4 0)<|(Q4 8)<|(Q6 8) ?_
 refine w9 (p := 1) rfl rfl rfl (by omega) ?_
 refine v3 rfl rfl rfl  ?_
 refine (Qi)<|(Qu 3)<|(jf)<|(Qf 4)<|(Qv 2 0)<|(Qd 3) ?_
 refine z6 (show _ = f3 B from (Y6 (zcv hh hz hn hV hB)).symm) ?_
 refine (Ca (z0o _ _))<|(j9) ?_
 refine z6 (zi0 (z9i hr0 hr1)).symm ?_
 refine (Ca (z5s (A + B) (k3 r) (by omega) hR)) ?_
 refine z6 (congrArg f3 hps) ?_
 refine (Qf 4)<|(QtC 0 2)<|(gj) ?_
 refine wo (Ub 213 rfl) (Uu 213 rfl) z4M rfl ?_
 refine (Qf 7)<|(QtC 0 3)<|(Qf 23)<|(QtV 0 4)<|Qn<|(gd) ?_
 refine (Av (PV r p (wd (pst (k3 r) A ((List.range n).map h))) (fun _ => 0) ((0 : Nat) : Int)))<|(QW 1)<|Qn<|Qr ?_
 exact ⟨_, rfl, yb 1⟩
theorem z8L (r p : NN) (A : Nat) (h : NN) (n : Int) (hp0 : p 0 < 18446744073709551616) (hp1 : p 1 < 18446744073709551616) : Fp G 255 #[PV r p (wd A) h n] (.agg (arr .u8 16 (tgn (k3 (wd A)) (k3 p)))) := by
 obtain ⟨X, hX⟩ : ∃ X, X = A + k3 p := ⟨_, rfl⟩
 have hE : ∀ s : Nat → Nat, (∀ j, j < 16 → s j = bt X j) → arr .u8 16 s = arr .u8 16 (tgn (k3 (wd A)) (k3 p)) := fun s h => zh fun j hj => (h j hj).trans (by rw [hX]; exact zjj A (k3 p) hj)
 refine Qf1 Tryz.func255 ?_
 refine (g4)<|(Qh 0) fun r1=>(QH 1) fun r2=>(gj)<|(Qf 4)<|(Qv 2 0)<|(Qf 2)<|(QA 2 0)<|(QI 1 0 0)<|(Qf 2)<|(QA 3 1)<|(QI 1 1 0) ?_
 refine zV (arr .u64 3 (upd p 2 0)) (Ub 310 rfl) (Uu 310 rfl) (Uz 31 rfl) rfl rfl rfl ?_
 refine z6 (show _ = f3 (k3 p) from (Y6 (zbQ hp0 hp1)).symm) ?_
 refine (Ca (z0o _ _)) ?_
 refine z6 (congrArg f3 hX.symm) ?_
 refine (QH 2) fun r3=>(Qt 2)<|(gj)<|(QH 3) fun r4=>Qn<|(ji) ?_
 refine QzK [(2, _), (3, _), (4, _)] [(0, _), (1, _), (2, _)] (fun kk E m => ∃ (i : Nat) (s : Nat → Nat), kk = 16 - i ∧ E = [(16, ii i)] ∧ m = [(3, some ⟨r4, arr .u8 16 s, 213⟩)] ∧ (i ≤ 16) ∧ (∀ j, j < i → s j = bt X j)) ⟨0, fun _ => 0, rfl, rfl, rfl, by omega, fun j hj => absurd hj (Nat.not_lt_zero j)⟩ ⟨rfl, rfl, rfl, rfl, trivial⟩ ⟨rfl, rfl, rfl, rfl, trivial⟩ ?_
 rintro kk E m ⟨i, s, rfl, rfl, rfl, hf0_0, hf0_1⟩
 simp only [zq, zx]
 refine (gq) ?_
 refine (Qcd) (fun hc0=>?_) fun hc0=>?_
 ·have hc0 : i < 16 := by omega
  refine (jr)<|(g3)<|Qp<|(gb)<|(Q5 8)<|(Qi)<|(Q1 2)<|(Qm)<|(Q4 8)<|(Q6 8) ?_
  refine Yq rfl rfl rfl (by omega) ?_
  refine yY (Uu 31) (Uu 5) rfl rfl rfl ?_
  refine (Qi)<|(Qu 3)<|(jc) ?_
  refine QzL ⟨i + 1, upd s i _, rfl, rfl, rfl, by omega, yN hf0_1 (z3s X i)⟩ ⟨rfl, rfl, rfl, rfl, trivial⟩ ⟨rfl, rfl, rfl, rfl, trivial⟩ ?_
  omega
 ·have hz0 : i = 16 := by omega
  subst hz0
  refine (jo)<|(Qd 3)<|(j4)<|Qr ?_
  rw [← hE _ hf0_1]
  exact ⟨_, rfl, ya 1⟩
theorem zaw (f : NN) (hf : L8 32 f) : Fp G 240 #[.agg (arr .u8 32 f)] (PV (w8 (bL f)) (fun j => w8 (bL f) (j + 2)) (fun _ => 0) (fun _ => 0) 0) := by
 refine Qf1 Tryz.func240 ?_
 refine (g4)<|(Qh 0) fun r1=>(QH 1) fun r2=>(jf) ?_
 refine xn 0 16 (Uu 30) (Uz 5) rfl rfl rfl rfl ⟨_, rfl⟩ (by omega) (by omega) (by omega) rfl ?_
 refine z3w (Uu 213) rfl (by omega) rfl ?_
 refine (Qls 0) ?_
 refine (Aa (fun j _ => congrArg f (Nat.zero_add j))) ?_
 refine (Ca (z0r f (fun j hj => hf j (by omega)))) ?_
 refine xn 16 32 (Uu 30) (Uz 5) rfl rfl rfl ⟨_, rfl⟩ rfl (by omega) (by omega) (by omega) rfl ?_
 refine z3w (Uu 213) rfl (by omega) rfl ?_
 refine (Qls 0) ?_
 refine zd rfl (Un 253) (z0r (fun t => f (16 + t)) (fun j hj => hf _ (by omega))) rfl rfl ?_
 refine (Aa (zh5 hf))<|(QH 2) fun r3=>(QH 3) fun r4=>(Qt 2)<|(Qt 3)<|(jf)<|(Qd 2) ?_
 refine (Ca (wh _)) ?_
 refine (Aa (z1S hf))<|(Qd 3) ?_
 refine zA (cells 24 [pI .u64 2 (w8 (bL f)), pI .u64 2 (fun j => w8 (bL f) (j + 2)), pI .u64 3 (fun _ => 0), pI .u8 16 (fun _ => 0), pV (.int .i64 0)]) (Ub 247 rfl) (Uu 247 rfl) zex rfl rfl rfl ?_
 refine (QW 1)<|Qn<|Qr ?_
 exact ⟨_, rfl, yb 1⟩
theorem Wr (r p a h : NN) (n : Int) (ha0 : a 0 < 18446744073709551616) (ha1 : a 1 < 18446744073709551616) (ha2 : a 2 < 18446744073709551616) (hr0 : r 0 < 18446744073709551616) (hr1 : r 1 < 18446744073709551616) : Fp G 251 #[PV r p a h n] (ii (if (yA r a n && okh n h 16) = true then 0 else 9)) := by
 refine Qf1 Tryz.func251 ?_
 refine (g4)<|(Qh 0) fun r1=>(g3)<|Qs<|Qs ?_
 rcases zj8 (n := n) hr0 hr1 ha0 ha1 ha2 with ⟨hk0, hko⟩ | ⟨hk0, hk1, hko⟩ | ⟨hk0, hk1, hk2, hko⟩ | ⟨hk0, hk1, hk2, hk3, hko⟩ | ⟨hk0, hk1, k, rfl, hk3, hko⟩
 ·skip
  refine (Qg)<|(j9) ?_
  refine (Ca (wh _))<|(j9) ?_
  refine Xt (Uu 244) (Uu 31) (Uz 31) vN rfl rfl rfl ?_
  refine z6 (congrArg (fun z => Value.bool (!z)) hk0) ?_
  refine (j5)<|(QT)<|(Qm)<|(gw)<|(QT)<|(Qm)<|(gw)<|(QT)<|(gv) ?_
  have hfin := z8s (d := okh n h 16) hko
  refine (gz) ?_
  first | rw [if_pos hfin] | rw [if_neg hfin]
  exact ⟨_, rfl, yt⟩
 ·skip
  refine (Qg)<|(j9) ?_
  refine (Ca (wh _))<|(j9) ?_
  refine Xt (Uu 244) (Uu 31) (Uz 31) vN rfl rfl rfl ?_
  refine z6 (congrArg (fun z => Value.bool (!z)) hk0) ?_
  refine (g7)<|(Qf 4)<|(Qy)<|(Qv 2 0) ?_
  refine z6 (Y6 (Y3 ha0 ha1 ha2)).symm ?_
  refine (Qy) ?_
  refine (Ca (Yv (w3 a) (X9 ha0 ha1 ha2)))<|(Qy)<|(Q0) ?_
  refine z6 (congrArg (fun z => Value.bool (!z)) (decide_eq_false hk1)) ?_
  refine (QF)<|(Qm)<|(gw)<|(QT)<|(Qm)<|(gw)<|(QT)<|(gv) ?_
  have hfin := z8s (d := okh n h 16) hko
  refine (gz) ?_
  first | rw [if_pos hfin] | rw [if_neg hfin]
  exact ⟨_, rfl, yt⟩
 ·skip
  refine (Qg)<|(j9) ?_
  refine (Ca (wh _))<|(j9) ?_
  refine Xt (Uu 244) (Uu 31) (Uz 31) vN rfl rfl rfl ?_
  refine z6 (congrArg (fun z => Value.bool (!z)) hk0) ?_
  refine (g7)<|(Qf 4)<|(Qy)<|(Qv 2 0) ?_
  refine z6 (Y6 (Y3 ha0 ha1 ha2)).symm ?_
  refine (Qy) ?_
  refine (Ca (Yv (w3 a) (X9 ha0 ha1 ha2)))<|(Qy)<|(Q0) ?_
  refine z6 (congrArg (fun z => Value.bool (!z)) (decide_eq_true hk1)) ?_
  refine (QF)<|(g7)<|(jh)<|(Qy)<|(Ql)<|(Qat)<|(QF)<|(Qm)<|(gw)<|(QT)<|(gv) ?_
  have hfin := z8s (d := okh n h 16) hko
  refine (gz) ?_
  first | rw [if_pos hfin] | rw [if_neg hfin]
  exact ⟨_, rfl, yt⟩
 ·skip
  refine (Qg)<|(j9) ?_
  refine (Ca (wh _))<|(j9) ?_
  refine Xt (Uu 244) (Uu 31) (Uz 31) vN rfl rfl rfl ?_
  refine z6 (congrArg (fun z => Value.bool (!z)) hk0) ?_
  refine (g7)<|(Qf 4)<|(Qy)<|(Qv 2 0) ?_
  refine z6 (Y6 (Y3 ha0 ha1 ha2)).symm ?_
  refine (Qy) ?_
  refine (Ca (Yv (w3 a) (X9 ha0 ha1 ha2)))<|(Qy)<|(Q0) ?_
  refine z6 (congrArg (fun z => Value.bool (!z)) (decide_eq_true hk1)) ?_
  refine (QF)<|(g7)<|(jh)<|(Qy)<|(Ql)<|(Qaf)<|(QF)<|(g7)<|(jh)<|(Qy)<|(QE)<|(Qat)<|(QF)<|(gv) ?_
  have hfin := z8s (d := okh n h 16) hko
  refine (gz) ?_
  first | rw [if_pos hfin] | rw [if_neg hfin]
  exact ⟨_, rfl, yt⟩
 ·skip
  refine (Qg)<|(j9) ?_
  refine (Ca (wh _))<|(j9) ?_
  refine Xt (Uu 244) (Uu 31) (Uz 31) vN rfl rfl rfl ?_
  refine z6 (congrArg (fun z => Value.bool (!z)) hk0) ?_
  refine (g7)<|(Qf 4)<|(Qy)<|(Qv 2 0) ?_
  refine z6 (Y6 (Y3 ha0 ha1 ha2)).symm ?_
  refine (Qy) ?_
  refine (Ca (Yv (w3 a) (X9 ha0 ha1 ha2)))<|(Qy)<|(Q0) ?_
  refine z6 (congrArg (fun z => Value.bool (!z)) (decide_eq_true hk1)) ?_
  refine (QF)<|(g7)<|(jh)<|(Qy)<|(Ql)<|(Qaf)<|(QF)<|(g7)<|(jh)<|(Qy)<|(QE)<|(Qaf)<|(QF)<|(jt)<|(Qf 7)<|(Qf 23)<|(QV 4 0) ?_
  refine xn k 16 (Uu 213) (Uz 5) rfl rfl rfl ⟨_, rfl⟩ rfl (by omega) (by omega) (by omega) rfl ?_
  refine z95 (Uu 22) rfl rfl rfl ?_
  refine (Qm)<|Qn<|Qb ?_
  refine QzK [(30, _), (31, _)] [(0, _)] (fun kk E m => ∃ (i : Nat), kk = 16 - k - i ∧ E = [(32, ii i)] ∧ m = [] ∧ (i ≤ 16 - k) ∧ (∀ j, j < i → h (k + j) = 0)) ⟨0, rfl, rfl, rfl, by omega, fun j hj => absurd hj (Nat.not_lt_zero j)⟩ ⟨rfl, rfl, rfl, trivial⟩ ⟨rfl, trivial⟩ ?_
  rintro kk E m ⟨i, rfl, rfl, rfl, hf0_0, hf0_1⟩
  simp only [zq, zx]
  refine (gq) ?_
  refine (Qcd) (fun hc1=>?_) fun hc1=>?_
  ·have hc1 : i < 16 - k := by omega
   refine Qk<|Qs<|Qb<|(g4) ?_
   refine z32 (7 + (k + i)) (Uu 22) (Uz 5) rfl rfl (by omega) (by omega) rfl ?_
   refine z1H (i := 0) 3 (k + i) (Uu 5) rfl rfl rfl rfl (by first | rfl | omega) (by omega) (by omega) rfl ⟨[], trivial⟩ ?_
   refine (jm)<|Qn ?_
   refine (Qcd) (fun hc2=>?_) fun hc2=>?_
   ·have hfin : ¬ (yA r a (k : Int) && okh (k : Int) h 16) = true := by rw [zg0 hc1 (fun e => hc2 (by rw [e]; rfl))]; simp
    refine (gz) ?_
    first | rw [if_pos hfin] | rw [if_neg hfin]
    exact ⟨_, rfl, yt⟩
   ·have hcz : h (k + i) = 0 := by omega
    refine Qk<|(gl) ?_
    refine QzL ⟨i + 1, rfl, rfl, rfl, by omega, fun j hj => by by_cases e : j = i; exact e ▸ hcz; exact hf0_1 j (by omega)⟩ ⟨rfl, rfl, rfl, trivial⟩ ⟨rfl, trivial⟩ ?_
    omega
  ·have hz0 : i = 16 - k := by omega
   have hfin : (yA r a (k : Int) && okh (k : Int) h 16) = true := by rw [hko, zhr (by rw [← hz0]; exact hf0_1)]; rfl
   refine Qe<|(gz) ?_
   first | rw [if_pos hfin] | rw [if_neg hfin]
   exact ⟨_, rfl, yt⟩
theorem zg6 (r p : NN) (A : Nat) (h : NN) (n : Nat) (v : Value) (l : LN) (hv : Sh G v l) (hlb : By l) (hA : A < 2 ^ 130) (hr0 : r 0 < 18446744073709551616) (hr1 : r 1 < 18446744073709551616) (hR : k3 r < 2 ^ 124) (hn : n < 16) (hh : L8 16 h) (hz : ∀ j, n ≤ j → j < 16 → h j = 0) (hok : (yA r (wd A) n && okh n h 16) = true) (hlen : l.length + 16 ≤ 9223372036854775807) : Fp G 239 #[PV r p (wd A) h n, v] (.tuple #[PV r p (wd (wB (k3 r) A (sS h n l) ((sS h n l).length / 16))) (fun i => ((sS h n l).drop (16 * ((sS h n l).length / 16))).getD i 0) (((sS h n l).drop (16 * ((sS h n l).length / 16))).length : Int), ii 0]) := by
 have hSl := WL h n l
 have hSb := z8M (n := n) (fun j hj => hh j (by omega)) hlb
 have hwA := y9 A
 refine Qf2 Tryz.func239 ?_
 refine (g4)<|(Qh 0) fun r1=>(QH 1) fun r2=>(g3)<|Qs<|(gd) ?_
 refine (Ca (Wr r p (wd A) h n (hwA 0) (hwA 1) (hwA 2) hr0 hr1)) ?_
 refine (Ai (if_pos hok))<|(jm)<|(go)<|(ge)<|(QC hv)<|(Qm)<|Qn<|Qb ?_
 refine QzK [(2, _), (4, _), (5, _), (15, _), (16, _)] [(1, _)] (fun kk E m => ∃ (i : Nat) (ac : Nat) (g : Nat → Nat) (c : Nat), kk = l.length - i ∧ E = [(17, ii i)] ∧ m = [(0, some ⟨r1, cells 24 [pI .u64 2 r, pI .u64 2 p, pI .u64 3 (wd ac), pI .u8 16 g, pV (.int .i64 ((c : Nat) : Int))], 247⟩)] ∧ (i ≤ l.length) ∧ (ac = wB (k3 r) A (sS h n l) ((n + i) / 16)) ∧ (c = (n + i) % 16) ∧ (∀ j, j < 16 → g j = Ya (sS h n l) (n + i) j)) ⟨0, A, h, n, rfl, rfl, rfl, by omega, by rw [show (n + 0) / 16 = 0 by omega]; rfl, by omega, z7q hn hz⟩ ⟨rfl, rfl, rfl, rfl, rfl, rfl, trivial⟩ ⟨rfl, rfl, trivial⟩ ?_
 rintro kk E m ⟨i, ac, g, c, rfl, rfl, rfl, hf0_0, hf0_1, hf0_2, hf0_3⟩
 simp only [zq, zx]
 have hac : ac < 2 ^ 130 := by rw [hf0_1]; exact z8t hA _
 refine (gq) ?_
 refine (Qcd) (fun hc1=>?_) fun hc1=>?_
 ·have hc1 : i < l.length := by omega
  refine Qk<|Qs<|Qb<|(g4) ?_
  refine yf hv (Uu 22) (Uz 5) rfl rfl (by omega) rfl ?_
  refine (QS) ?_
  refine zS hv ze (Uu 5) rfl rfl (z91 hc1) rfl ?_
  refine (j3)<|(Qf 23)<|(QV 4 0)<|(Qm)<|(Qf 7)<|(QB (7 + c)) ?_
  refine z97 (i := 0) 3 (c) (Uz 5) rfl rfl rfl rfl (by first | rfl | omega) (by omega) (by omega) (.inl rfl) ?_
  refine (gj)<|(Qf 23)<|(QV 4 0)<|(Q2 1)<|(Qf 23)<|(QtV 0 4)<|(gj)<|(Qf 23)<|(QV 4 0)<|(Qc)<|Qn ?_
  refine (Qcd) (fun hc2=>?_) fun hc2=>?_
  ·have hc16 : c + 1 = 16 := by omega
   refine Qp<|(QD 0) ?_
   refine (Av (PV r p (wd ac) (upd g c l[i]) ((c + 1 : Nat) : Int))) ?_
   refine zd rfl (Un 252) (z5d r p ac (upd g c l[i]) (c + 1) hr0 hr1 hR hac (by omega) (fun j hj => by unfold upd; split; exact hlb _ (List.getElem_mem hc1); rw [hf0_3 j hj]; exact zfX hSb _ _) (fun j h1 h2 => absurd h2 (by omega))) rfl rfl ?_
   refine (QW 0)<|(jc) ?_
   refine QzL ⟨i + 1, _, _, _, rfl, rfl, rfl, by omega, (by first | exact z2f (T := n + i) (by omega) hf0_1 | exact z2c (T := n + i) (by omega) hf0_1 (by rw [hc16, hf0_2]; exact z1U (T := n + i) (by omega) (by omega) (z8h hc1) hf0_3)), by omega, (by first | exact z24 (T := n + i) (by omega) | (rw [hf0_2]; exact z1W (T := n + i) (by omega) (z8h hc1) hf0_3))⟩ ⟨rfl, rfl, rfl, rfl, rfl, rfl, trivial⟩ ⟨rfl, rfl, trivial⟩ ?_
   omega
  ·refine Qk<|Qp<|(Q2 1)<|(Qm)<|Qn ?_
   refine QzL ⟨i + 1, _, _, _, rfl, rfl, rfl, by omega, (by first | exact z2f (T := n + i) (by omega) hf0_1 | exact z2c (T := n + i) (by omega) hf0_1 (by rw [hc16, hf0_2]; exact z1U (T := n + i) (by omega) (by omega) (z8h hc1) hf0_3)), by omega, (by first | exact z24 (T := n + i) (by omega) | (rw [hf0_2]; exact z1W (T := n + i) (by omega) (z8h hc1) hf0_3))⟩ ⟨rfl, rfl, rfl, rfl, rfl, rfl, trivial⟩ ⟨rfl, rfl, trivial⟩ ?_
   omega
 ·have hz0 : i = l.length := by omega
  refine Qe<|(gd) ?_
  refine z6 (Eq.trans (show _ = PV r p (wd ac) g ((c : Nat) : Int) from rfl) (show _ = PV r p (wd (wB (k3 r) A (sS h n l) ((sS h n l).length / 16))) (fun i => ((sS h n l).drop (16 * ((sS h n l).length / 16))).getD i 0) (((sS h n l).drop (16 * ((sS h n l).length / 16))).length : Int) from zfk (fun _ _ => rfl) (fun _ _ => rfl) (fun _ _ => by rw [hf0_1, hSl, hz0]) (zf2 (by rw [hSl, ← hz0]; exact hf0_3)) (by rw [List.length_drop]; omega))) ?_
  refine (QW 1)<|(gt) ?_
  exact ⟨_, _, rfl, yb 1, yt⟩
theorem zaD (r p : NN) (A : Nat) (h : NN) (n : Nat) (hr0 : r 0 < 18446744073709551616) (hr1 : r 1 < 18446744073709551616) (hp0 : p 0 < 18446744073709551616) (hp1 : p 1 < 18446744073709551616) (hn : n = 0) (hok : (yA r (wd A) n && okh n h 16) = true) : Fp G 241 #[PV r p (wd A) h n] (.tuple #[.agg (arr .u8 16 (tgn (k3 (wd A)) (k3 p))), ii 0]) := by
 have hwA := y9 A
 refine Qf2 Tryz.func241 ?_
 refine (g4)<|(Qh 0) fun r1=>(QH 1) fun r2=>(g3)<|Qs<|(gd) ?_
 refine (Ca (Wr r p (wd A) h n (hwA 0) (hwA 1) (hwA 2) hr0 hr1)) ?_
 refine (Ai (if_pos hok))<|(jm)<|(jt)<|(Qf 23)<|(QV 4 0)<|(QG)<|Qn ?_
 refine zi rfl ?_ ?_
 ·intro hc1
  exact absurd (of_decide_eq_true hc1) (by omega)
 ·intro hc1
  refine Qk<|(gd) ?_
  refine (Ca (z8L r p A h n hp0 hp1))<|(Qt 1)<|(gt) ?_
  exact ⟨_, _, rfl, ya 1, yt⟩
theorem zak (r p : NN) (A : Nat) (h : NN) (n : Nat) (hr0 : r 0 < 18446744073709551616) (hr1 : r 1 < 18446744073709551616) (hp0 : p 0 < 18446744073709551616) (hp1 : p 1 < 18446744073709551616) (hR : k3 r < 2 ^ 124) (hA : A < 2 ^ 130) (hh : L8 16 h) (hz : ∀ j, n ≤ j → j < 16 → h j = 0) (hn : 0 < n) (hn2 : n < 16) (hok : (yA r (wd A) n && okh n h 16) = true) : Fp G 241 #[PV r p (wd A) h n] (.tuple #[.agg (arr .u8 16 (tgn (k3 (wd (pst (k3 r) A ((List.range n).map h)))) (k3 p))), ii 0]) := by
 have hwA := y9 A
 refine Qf2 Tryz.func241 ?_
 refine (g4)<|(Qh 0) fun r1=>(QH 1) fun r2=>(g3)<|Qs<|(gd) ?_
 refine (Ca (Wr r p (wd A) h n (hwA 0) (hwA 1) (hwA 2) hr0 hr1)) ?_
 refine (Ai (if_pos hok))<|(jm)<|(jt)<|(Qf 23)<|(QV 4 0)<|(QG)<|Qn ?_
 refine zi rfl ?_ ?_
 ·intro hc1
  refine Qp<|(QD 0) ?_
  refine (Ca (z5d r p A h n hr0 hr1 hR hA (by omega) hh hz))<|(QW 0)<|Qn<|(gd) ?_
  refine (Ca (z8L r p (pst (k3 r) A ((List.range n).map h)) (fun _ => 0) ((0 : Nat) : Int) hp0 hp1))<|(Qt 1)<|(gt) ?_
  exact ⟨_, _, rfl, ya 1, yt⟩
 ·intro hc1
  exact absurd (of_decide_eq_false hc1) (by omega)
theorem z6j {G : Mem} (f : NN) (hf : L8 32 f) : Fp G 240 #[.agg (arr .u8 32 f)] (stP f []) := by
 rw [← z90 f]; exact zaw f hf
theorem z10 (m : LN) : ∀ j, (yv m).length ≤ j → j < 16 → wX m j = 0 := fun j h1 _ => by
 unfold wX
 rw [List.getD_eq_getElem?_getD, List.getElem?_eq_none h1]; rfl
theorem z6t {G : Mem} (f : NN) (m : LN) (v : Value) (l : LN) (hf : L8 32 f) (hm : By m) (hv : Sh G v l) (hlb : By l) (hlen : l.length + 16 ≤ 9223372036854775807) :
  Fn Tryz.prog G 239 #[stP f m, v] (.tuple #[stP f (m ++ l), ii 0]) := by
 have hb := z2r hf
 have h := zg6 (G := G) (w8 (bL f)) (fun j => w8 (bL f) (j + 2)) (ZM (k3 (w8 (bL f))) m) (wX m) (yv m).length v l hv hlb (Nat.lt_trans (Xw _ _) z0e) (xb hb 0) (xb hb 1) (z4a (xb hb 0) (xb hb 1) (vB hf)) (by rw [vE]; omega) (fun j _ => Xz hm j) (z10 m) (Xh (vB hf) _ m) hlen
 rw [z3h, z57, z1J] at h
 exact h
theorem z79 {G : Mem} (f : NN) (m : LN) (hf : L8 32 f) (hm : By m) : Fp G 241 #[stP f m] (.tuple #[.agg (arr .u8 16 (ptg f m)), ii 0]) := by
 have hb := z2r hf
 have hok := Xh (vB hf) (k3 (w8 (bL f))) m
 by_cases h0 : (yv m).length = 0
 ·have h := zaD (G := G) (w8 (bL f)) (fun j => w8 (bL f) (j + 2)) (ZM (k3 (w8 (bL f))) m) (wX m) (yv m).length (xb hb 0) (xb hb 1) (xb hb 2) (xb hb 3) h0 hok
  unfold stP cP
  rw [show ZM (k3 (w8 (bL f))) m = zdq (k3 (w8 (bL f))) m from (if_pos h0).symm] at h ⊢
  exact h
 ·have h := zak (G := G) (w8 (bL f)) (fun j => w8 (bL f) (j + 2)) (ZM (k3 (w8 (bL f))) m) (wX m) (yv m).length (xb hb 0) (xb hb 1) (xb hb 2) (xb hb 3) (z4a (xb hb 0) (xb hb 1) (vB hf)) (Nat.lt_trans (Xw _ _) z0e) (fun j _ => Xz hm j) (z10 m) (by omega) (by rw [vE]; omega) hok
  rw [z2y, show pst (k3 (w8 (bL f))) (ZM (k3 (w8 (bL f))) m) (yv m) = zdq (k3 (w8 (bL f))) m from (if_neg h0).symm] at h
  exact h
theorem zg9 (f : NN) (v : Value) (l : LN) (hf : L8 32 f) (hb : By l) (hl : l.length ≤ 140737488351232) (hv : Sh G v l) : Fp G 225 #[.agg (arr .u8 32 f), v] (.agg (arr .u8 16 (ptg f l))) := by
 have hl2 : l.length + 16 ≤ 9223372036854775807 := by omega
 refine Qf1 Tryz.func225 ?_
 refine (g4)<|(Qh 0) fun r1=>(QH 1) fun r2=>(gj)<|(Qd 0) ?_
 refine (Ca (z6j f hf))<|(Qm) ?_
 refine (Ca (z6t f [] v l hf (by simp) hv hb hl2)) ?_
 refine (Av (Value.tuple #[stP f l, ii 0]))<|(gi)<|(QH 2) fun r3=>(QW 2)<|(j3)<|(QD 2) ?_
 refine (Ca (z79 f l hf hb))<|(gi)<|(QH 3) fun r4=>(Qt 3)<|(j3)<|(Qd 3)<|(j4)<|Qr ?_
 exact ⟨_, rfl, ya 1⟩
theorem z6S (va vt : Value) (ad tx : LN) (hva : Sh G va ad) (hvt : Sh G vt tx) (hal : ad.length ≤ 10000) (htl : tx.length ≤ 10000) : Fq G [] 226 #[va, vt] (R1 5 (vO ad tx)) := by
 have hml := WY ad tx
 have hse := zac ad tx
 refine QfN Tryz.func226 ?_
 refine (gc)<|Qs<|QR ⟨[], 4, [], none, none⟩<|(gb)<|(QC hva) ?_
 refine zG 0 (fun v => v) rfl rfl (Un 242) ze (z5k ad.length) (by simp only [maxLen]; omega) (by rw [List.length_map, wu, Nat.mul_one]) rfl rfl fun v1_1 oz1_1 ho1_1 => ?_
 refine (gb)<|(QC hvt) ?_
 refine zG 1 (fun v => v) rfl rfl (Un 242) ze (z5k tx.length) (by simp only [maxLen]; omega) (by rw [List.length_map, wu, Nat.mul_one]) rfl rfl fun v1_2 oz1_2 ho1_2 => ?_
 refine (Qm)<|(QC hva) ?_
 refine zG 2 (fun v => v) rfl rfl (Un 243) ze (z1C ad.length) (by simp only [maxLen]; omega) (by rw [List.length_map, zK]) rfl rfl fun v1_3 oz1_3 ho1_3 => ?_
 refine (Qm)<|(QC hvt) ?_
 refine zG 3 (fun v => v) rfl rfl (Un 243) ze (z1C tx.length) (by simp only [maxLen]; omega) (by rw [List.length_map, zK]) rfl rfl fun v1_4 oz1_4 ho1_4 => ?_
 refine yj 4 [va, v1_1, vt, v1_2, v1_3, v1_4].toArray (Uu 154 rfl) (Uz 22 rfl) (Ub 22 rfl) (by decide) (by decide) rfl (xE [va, v1_1, vt, v1_2, v1_3, v1_4] 0 _ (by intro v hv; simp only [List.mem_cons, List.not_mem_nil, or_false] at hv; rcases hv with rfl | rfl | rfl | rfl | rfl | rfl; exact yk hva; exact yk ho1_1.shows; exact yk hvt; exact yk ho1_2.shows; exact yk ho1_3.shows; exact yk ho1_4.shows) (by simp)) rfl fun r5 => ?_
 refine zG 5 (fun v => v) rfl rfl (Un 67) (zf ze (zf (zL 0 rfl ⟨[], trivial⟩) (zf (zL 1 rfl ⟨[], trivial⟩) (zf (zL 2 rfl ⟨[], trivial⟩) (zf (zL 3 rfl ⟨[], trivial⟩) (zZ 4 rfl ⟨[], trivial⟩)))))) (z2m (G := (G ++ (oz1_1.toList ++ (oz1_2.toList ++ (oz1_3.toList ++ (oz1_4.toList ++ [(⟨r5, [va, v1_1, vt, v1_2, v1_3, v1_4].toArray, 22⟩ : Blk)])))))) (.slice (some ⟨r5, 0, none⟩) 6 6) [va, v1_1, vt, v1_2, v1_3, v1_4] [ad, zrs ((16 - ad.length % 16) % 16), tx, zrs ((16 - tx.length % 16) % 16), xP ad.length 8, xP tx.length 8] (Shows.mono (xq (r := r5) (len := 6) (z := 1) [va, v1_1, vt, v1_2, v1_3, v1_4].toArray 22 rfl) (fun x h => (List.mem_append_right _ (List.mem_append_right _ (List.mem_append_right _ (List.mem_append_right _ (List.mem_append_right _ h))))))) (yG (hva.mono (fun x h => (List.mem_append_left _ h))) (yG (Shows.mono (OwnS.shows (zy ho1_1 (wu _).symm rfl)) (fun x h => (List.mem_append_right _ (List.mem_append_left _ h)))) (yG (hvt.mono (fun x h => (List.mem_append_left _ h))) (yG (Shows.mono (OwnS.shows (zy ho1_2 (wu _).symm rfl)) (fun x h => (List.mem_append_right _ (List.mem_append_right _ (List.mem_append_left _ h))))) (yG (Shows.mono (OwnS.shows (zy ho1_3 (zK ad.length 8).symm rfl)) (fun x h => (List.mem_append_right _ (List.mem_append_right _ (List.mem_append_right _ (List.mem_append_left _ h)))))) (yG (Shows.mono (OwnS.shows (zy ho1_4 (zK tx.length 8).symm rfl)) (fun x h => (List.mem_append_right _ (List.mem_append_right _ (List.mem_append_right _ (List.mem_append_right _ (List.mem_append_left _ h))))))) (X5 _))))))) (Nat.le_of_ble_eq_true rfl) (by rw [hse]; omega)) (by rw [hse]; simp only [maxLen]; omega) (by rw [List.length_map, Nat.mul_one]) rfl rfl fun v1_5 oz1_5 ho1_5 => ?_
 refine (gt) ?_
 exact ⟨_, _, _, 5, rfl, yt, (zy ho1_5 (by rw [hse]) (by rw [hse])), rfl⟩
theorem z6e (k nn : NN) (v : Value) (l : LN) (hk : L8 32 k) (hn : L8 12 nn) (hv : Sh G v l) (hl : l.length ≤ 1600) : Fq G [] 198 #[.agg (arr .u8 32 k), .agg (arr .u8 12 nn), v] (fun v l1 nw => l1 = [] ∧ ∃ v', v = v' ∧ OwnS 5 1 v' l.length ((ww k 1 nn l 0).map by8) nw) := by
 refine QfN Tryz.func198 ?_
 refine (g4)<|(Qh 0) fun r1=>(Qh 1) fun r2=>(g3)<|Qs<|QR ⟨[], 4, [], none, none⟩<|(Qd 0)<|(Qd 1)<|(Qm) ?_
 refine zG 2 (fun v => .tuple #[v, ii 0]) rfl rfl (Un 223) ze (z9H k 1 nn v l hv hk hn (by decide) (by omega) (by omega)) (by simp only [maxLen]; omega) (by rw [List.length_map, xv, Nat.mul_one]) rfl rfl fun v1_1 oz1_1 ho1_1 => ?_
 refine (gi)<|(g8)<|(g6)<|(gt) ?_
 exact ⟨_, _, _, 2, rfl, yt, ho1_1, rfl⟩
theorem zaq (k nn : NN) (va vt : Value) (ad tx : LN) (hva : Sh G va ad) (hvt : Sh G vt tx) (hk : L8 32 k) (hn : L8 12 nn) (hab : By ad) (htb : By tx) (hal : ad.length ≤ 10000) (htl : tx.length ≤ 10000) : Fp G 199 #[.agg (arr .u8 32 k), .agg (arr .u8 12 nn), va, vt] (.agg (arr .u8 16 (ptg (z0T k nn) (vO ad tx)))) := by
 have hml := WY ad tx
 refine Qf1 Tryz.func199 ?_
 refine (g4)<|(Qh 0) fun r1=>(Qh 1) fun r2=>(QH 2) fun r3=>(gj)<|(Qd 0)<|(Qd 1) ?_
 refine (Ca (z5l k 0 nn hk hn (by decide)))<|(QH 3) fun r4=>(Qt 3)<|Qn<|Qs<|(Qq ⟨[], 4, [], none, none⟩) ?_
 refine xn 0 32 (Uu 111) (Uz 5) rfl rfl rfl rfl ⟨_, rfl⟩ (by omega) (by omega) (by omega) rfl ?_
 refine z3w (Uu 30) rfl (by omega) rfl ?_
 refine (Qls 3) ?_
 refine z6 (congrArg Value.agg (zh (fun j _ => show Y4 k 0 nn (0 + j) = z0T k nn j by rw [Nat.zero_add]; rfl))) ?_
 refine (gb) ?_
 refine zG 4 (fun v => v) rfl rfl (Un 226) ze (z6S va vt ad tx hva hvt hal htl) (by simp only [maxLen]; omega) (by rw [List.length_map, Nat.mul_one]) rfl rfl fun v1_1 oz1_1 ho1_1 => ?_
 refine vj oz1_1.toList rfl rfl (Un 225) (z5P (i := 4) rfl) (zg9 (z0T k nn) _ (vO ad tx) (z8N k nn) (z5q hab htb) (by omega) ho1_1.shows) rfl rfl rfl ?_
 refine (Qt 2)<|Qn<|Qr ?_
 exact ⟨_, rfl, ya 2⟩
theorem z7f (k nn : NN) (va vt : Value) (ad tx : LN) (hva : Sh G va ad) (hvt : Sh G vt tx) (h : ad.length ≤ 200) (h2 : 800 < tx.length) : Fp G 171 #[.agg (arr .u8 32 k), .agg (arr .u8 12 nn), va, vt] (.tuple #[yg, ii 1]) := by
 refine Qf2 Tryz.func171 ?_
 refine (g4)<|(Qh 0) fun r1=>(Qh 1) fun r2=>(ja)<|(QC hva)<|(QG)<|(Qaf)<|(gn)<|(QC hvt)<|(Qy)<|(QG)<|(Qat)<|(QF)<|(gv)<|(g4)<|(h8) ?_
 exact ⟨_, _, rfl, yt, yt⟩
theorem zdS (k nn : NN) (va vt : Value) (ad tx : LN) (hk : L8 32 k) (hn : L8 12 nn) (hva : Sh G va ad) (hvt : Sh G vt tx) (hab : By ad) (h : ad.length ≤ 200) (h2 : tx.length ≤ 800) : Fq G [] 171 #[.agg (arr .u8 32 k), .agg (arr .u8 12 nn), va, vt] (R2 5 (ve k nn ad tx)) := by
 have hsl := xv k 1 nn tx 0
 have hse := wF k nn ad tx
 refine QfM Tryz.func171 ?_
 refine (g4)<|(Qh 0) fun r1=>(Qh 1) fun r2=>(ja)<|(QC hva)<|(QG)<|(Qaf)<|(gn)<|(QC hvt)<|(Qy)<|(QG)<|(Qaf)<|(QF)<|(go)<|Qs<|QR ⟨[], 4, [], none, none⟩<|(Qd 0)<|(Qd 1)<|(Qm) ?_
 refine zG 2 (fun v => v) rfl rfl (Un 198) ze (z6e k nn vt tx hk hn hvt (by omega)) (by simp only [maxLen]; omega) (by rw [List.length_map, xv, Nat.mul_one, Nat.sub_zero]) rfl rfl fun v2_1 oz2_1 ho2_1 => ?_
 refine (j3)<|(Qd 0)<|(Qd 1)<|(gb) ?_
 refine zg rfl rfl (Un 199) (zf ze (zL 2 rfl ⟨[], trivial⟩)) (zaq (G := G ++ oz2_1.toList) k nn va _ ad (ww k 1 nn tx 0) (hva.mono (fun x h => List.mem_append_left _ h)) ((zY ho2_1).mono (fun x h => List.mem_append_right _ h)) hk hn hab (z2G _ _ _ _ _) (by omega) (by omega)) rfl rfl ?_
 refine (QH 3) fun r4=>(Qt 3)<|Qn<|(g6)<|(Qsa 0 16) ?_
 refine yB 2 ho2_1 (YG r4 16 (ptg (z0T k nn) (vO ad (ww k 1 nn tx 0))) 213 0 16 16 (by decide) (by decide)) rfl (zZ 3 rfl ⟨[], trivial⟩) (Uu 22) (Uz 5) (Uy 5) (Ub 5) (by rfl) rfl rfl vm (by simp only [maxLen]; simp; omega) (by simp; omega) rfl fun v2_2 oz2_2 ho2_2 => ?_
 refine (h8) ?_
 exact ⟨_, _, _, _, 2, rfl, yt, yt, (zy ho2_2 (by rw [hse]; simp) (z6O k nn ad tx)), rfl⟩
theorem z5U (f : NN) : Fp G 188 #[.agg (arr .u8 32 f)] (CV true f 0) := by
 refine Qf1 Tryz.func188 ?_
 refine (g4)<|(Qh 0) fun r1=>(QH 1) fun r2=>(gj)<|(Qd 0) ?_
 refine zA (cells 34 [pV (.bool true), pI .u8 32 f, pV (u 0)]) (Ub 33 rfl) (Uu 33 rfl) vM rfl (by kernel_rfl) rfl ?_
 refine (QW 1)<|Qn<|Qr ?_
 exact ⟨_, rfl, yb 1⟩
theorem Zk (has : Bool) (k : NN) (n : Nat) : Fp G 195 #[CV has k n] (ii (if okC has k n = true then 0 else 9)) := by
 refine Qf1 Tryz.func195 ?_
 refine (g4)<|(Qh 0) fun r1=>(g3)<|Qs<|Qs ?_
 rcases zcE has k n with ⟨hk0, hko⟩ | ⟨hk0, hk1, hko⟩ | ⟨hk0, hk1, hk2, hko⟩ | ⟨hk0, hk1, hk2, hko⟩
 ·skip
  refine Qp<|(j0)<|(Q0) ?_
  refine z6 (congrArg (fun z => Value.bool (!z)) hk0) ?_
  refine (Qm)<|(gw)<|(QF)<|(go)<|(gz) ?_
  rw [hko]
  exact ⟨_, rfl, yt⟩
 ·skip
  refine Qp<|(j0)<|(Q0) ?_
  refine z6 (congrArg (fun z => Value.bool (!z)) hk0) ?_
  refine (g7)<|(QD 0)<|(Qy) ?_
  refine zA (cells 34 [pV (.bool false), pI .u8 32 (fun _ => 0), pV (.int .u64 0)]) (Ub 33 rfl) (Uu 33 rfl) vM rfl (by kernel_rfl) rfl ?_
  refine (Qy) ?_
  refine zcO zf5 zdf rfl rfl rfl ?_
  refine (Ab (((congrArg (fun z => !([(z == false), zP 32 k (fun _ => 0), ((n : Int) == 0)].all id)) hk0).trans (z7I k n)).trans (congrArg (fun z => !z) (hk0 ▸ hko))))<|(QT)<|(gv)<|(gz) ?_
  rw [hko]
  exact ⟨_, rfl, yt⟩
 ·skip
  refine Qp<|(j0)<|(Q0) ?_
  refine z6 (congrArg (fun z => Value.bool (!z)) hk0) ?_
  refine (g7)<|(QD 0)<|(Qy) ?_
  refine zA (cells 34 [pV (.bool false), pI .u8 32 (fun _ => 0), pV (.int .u64 0)]) (Ub 33 rfl) (Uu 33 rfl) vM rfl (by kernel_rfl) rfl ?_
  refine (Qy) ?_
  refine zcO zf5 zdf rfl rfl rfl ?_
  refine (Ab (((congrArg (fun z => !([(z == false), zP 32 k (fun _ => 0), ((n : Int) == 0)].all id)) hk0).trans (z7I k n)).trans (congrArg (fun z => !z) (hk0 ▸ hko))))<|(QT)<|(gv)<|(gz) ?_
  rw [hko]
  exact ⟨_, rfl, yt⟩
 ·skip
  refine Qp<|(j0)<|(Q0) ?_
  refine z6 (congrArg (fun z => Value.bool (!z)) hk0) ?_
  refine (g7)<|(QD 0)<|(Qy) ?_
  refine zA (cells 34 [pV (.bool false), pI .u8 32 (fun _ => 0), pV (.int .u64 0)]) (Ub 33 rfl) (Uu 33 rfl) vM rfl (by kernel_rfl) rfl ?_
  refine (Qy) ?_
  refine zcO zf5 zdf rfl rfl rfl ?_
  refine (Ab (((congrArg (fun z => !([(z == false), zP 32 k (fun _ => 0), ((n : Int) == 0)].all id)) hk0).trans (z7I k n)).trans (congrArg (fun z => !z) (hk0 ▸ hko))))<|(QT)<|(go)<|(gz) ?_
  rw [hko]
  exact ⟨_, rfl, yt⟩
theorem z2D (n : Nat) : Fp G 197 #[u n] (.agg (arr .u8 12 (wb n))) := by
 refine Qf1 Tryz.func197 ?_
 refine (g4)<|(QH 0) fun r1=>(gj)<|(QH 1) fun r2=>Qn<|(ji) ?_
 refine QzK [(0, _), (2, _), (3, _)] [(0, _)] (fun kk E m => ∃ (i : Nat) (s : Nat → Nat), kk = 8 - i ∧ E = [(5, ii i)] ∧ m = [(1, some ⟨r2, arr .u8 12 s, 146⟩)] ∧ (i ≤ 8) ∧ (∀ t, t < 12 → s t = if t < 4 + i then wb n t else 0)) ⟨0, fun _ => 0, rfl, rfl, rfl, by omega, (zae n)⟩ ⟨rfl, rfl, rfl, rfl, trivial⟩ ⟨rfl, rfl, trivial⟩ ?_
 rintro kk E m ⟨i, s, rfl, rfl, rfl, hf0_0, hf0_1⟩
 simp only [zq, zx]
 refine (gq) ?_
 refine (Qcd) (fun hc0=>?_) fun hc0=>?_
 ·have hc0 : i < 8 := by omega
  refine (jr)<|(g3)<|(je) ?_
  refine y3 (p := 4) rfl rfl rfl (by omega) ?_
  refine (gb)<|(Q7 8) ?_
  refine Yq rfl rfl rfl (by omega) ?_
  refine yY (Uu 31) (Uu 5) rfl rfl rfl ?_
  refine (Qi)<|(Qu 1)<|(jc) ?_
  refine QzL ⟨i + 1, upd s (4 + i) _, rfl, rfl, rfl, by omega, (zen hf0_1 rfl)⟩ ⟨rfl, rfl, rfl, rfl, trivial⟩ ⟨rfl, rfl, trivial⟩ ?_
  omega
 ·have hz0 : i = 8 := by omega
  subst hz0
  refine (jo)<|(Qd 1) ?_
  refine (Aa (zda rfl hf0_1))<|(Qt 0)<|Qn<|Qr ?_
  exact ⟨_, rfl, ya 0⟩
theorem z7O (k : NN) (n : Nat) (vt : Value) (tx : LN) (hvt : Sh G vt tx) (hl : 800 < tx.length) : Fp G 196 #[CV false k n, vt] (.tuple #[CZ, yg, ii 1]) := by
 refine Qf3 Tryz.func196 ?_
 refine (g4)<|(Qh 0) fun r1=>(QH 1) fun r2=>(ja)<|(QC hvt)<|(QG)<|(Qat)<|(gv)<|(g4) ?_
 refine zA (cells 34 [pV (.bool false), pI .u8 32 (fun _ => 0), pV (.int .u64 0)]) (Ub 33 rfl) (Uu 33 rfl) vM rfl (by kernel_rfl) rfl ?_
 refine (jk) ?_
 exact ⟨_, _, _, rfl, yb 1, yt, yt⟩
theorem zbG (k : NN) (n : Nat) (vt : Value) (tx : LN) (hvt : Sh G vt tx) (hl : tx.length ≤ 800) : Fq G [] 196 #[CV false k n, vt] (fun v l1 nw => l1 = [] ∧ ∃ v', v = .tuple #[CV false k n, v', ii 0] ∧ OwnS 5 1 v' tx.length (tx.map by8) nw) := by
 refine QfO Tryz.func196 ?_
 refine (g4)<|(Qh 0) fun r1=>(QH 1) fun r2=>(ja)<|(QC hvt)<|(QG)<|(j8)<|Qs<|(Qq ⟨[r2], 1, [], (some [r1]), none⟩) ?_
 refine zF (i := 0) (Uu 33) rfl (Uz 33) rfl rfl (z3 _ _) rfl ⟨[1], ⟨rfl, rfl, trivial⟩, _, rfl, by simp⟩ ?_
 refine vG 2 (Uu 22 rfl) (Uz 5 rfl) rfl fun r3 => ?_
 refine (Qm) ?_
 refine Yr 2 Y0 hvt rfl (fun q hq => .inl hq) ⟨[0], rfl, rfl, trivial⟩ (Uu 22) (Uz 5) (Uy 5) (Ub 5) (by rfl) rfl rfl vm (by simp only [maxLen]; omega) (by omega) rfl fun v2_1 oz2_1 ho2_1 => ?_
 refine z5 (i := 1) (Uz 33) rfl rfl (z3 _ _) (z7 ⟨fun _ => rfl, fun _ => rfl, fun _ => rfl, trivial⟩) rfl za (.inr (by simp)) ?_
 refine (h8) ?_
 exact ⟨_, _, _, _, _, 2, rfl, yb 1, yt, yt, (zy ho2_1 (by omega) rfl), rfl⟩
theorem z9X (x : Nat) : Fp G 206 #[uw x, .int .i64 (-16)] (uw (wj x 16)) := by
 refine Qf1 Tryz.func206 ?_
 refine (gc)<|(g6) ?_
 refine YC (Uu 3) (Uu 158) rfl rfl rfl ?_
 refine (Av (u 18446744073709551600))<|(Q9 31) ?_
 refine (Av (u 16))<|(gm)<|(Qm) ?_
 refine vn rfl rfl rfl (by omega) ?_
 refine (gb) ?_
 refine xX (p := 32) rfl rfl rfl (by omega) ?_
 refine (Av (u 16)) ?_
 refine Z4 rfl rfl rfl (by omega) ?_
 refine ZJ rfl rfl rfl  ?_
 refine (gt) ?_
 exact ⟨_, rfl, yt⟩
theorem zbI (x : Nat) : Fp G 206 #[uw x, .int .i64 (-12)] (uw (wj x 20)) := by
 refine Qf1 Tryz.func206 ?_
 refine (gc)<|(g6) ?_
 refine YC (Uu 3) (Uu 158) rfl rfl rfl ?_
 refine (Av (u 18446744073709551604))<|(Q9 31) ?_
 refine (Av (u 20))<|(gm)<|(Qm) ?_
 refine vn rfl rfl rfl (by omega) ?_
 refine (gb) ?_
 refine xX (p := 32) rfl rfl rfl (by omega) ?_
 refine (Av (u 12)) ?_
 refine Z4 rfl rfl rfl (by omega) ?_
 refine ZJ rfl rfl rfl  ?_
 refine (gt) ?_
 exact ⟨_, rfl, yt⟩
theorem zbW (x : Nat) : Fp G 206 #[uw x, .int .i64 (-8)] (uw (wj x 24)) := by
 refine Qf1 Tryz.func206 ?_
 refine (gc)<|(g6) ?_
 refine YC (Uu 3) (Uu 158) rfl rfl rfl ?_
 refine (Av (u 18446744073709551608))<|(Q9 31) ?_
 refine (Av (u 24))<|(gm)<|(Qm) ?_
 refine vn rfl rfl rfl (by omega) ?_
 refine (gb) ?_
 refine xX (p := 32) rfl rfl rfl (by omega) ?_
 refine (Av (u 8)) ?_
 refine Z4 rfl rfl rfl (by omega) ?_
 refine ZJ rfl rfl rfl  ?_
 refine (gt) ?_
 exact ⟨_, rfl, yt⟩
theorem zcs (x : Nat) : Fp G 206 #[uw x, .int .i64 (-7)] (uw (wj x 25)) := by
 refine Qf1 Tryz.func206 ?_
 refine (gc)<|(g6) ?_
 refine YC (Uu 3) (Uu 158) rfl rfl rfl ?_
 refine (Av (u 18446744073709551609))<|(Q9 31) ?_
 refine (Av (u 25))<|(gm)<|(Qm) ?_
 refine vn rfl rfl rfl (by omega) ?_
 refine (gb) ?_
 refine xX (p := 32) rfl rfl rfl (by omega) ?_
 refine (Av (u 7)) ?_
 refine Z4 rfl rfl rfl (by omega) ?_
 refine ZJ rfl rfl rfl  ?_
 refine (gt) ?_
 exact ⟨_, rfl, yt⟩
theorem ziB (f : NN) (r a b c d x y : Nat) (ha : a < 16) (hb : b < 16) (hc : c < 16) (hd : d < 16) : Fq G [⟨r, arr .u32 16 f, 216⟩] 205 #[ii a, ii b, ii c, ii d, uw x, uw y, ptr r] (fun v l1 nw => v = .tuple #[] ∧ l1 = [⟨r, arr .u32 16 (mst f a b c d x y), 216⟩] ∧ nw = []) := by
 refine QfW Tryz.func205 ?_
 refine (gr)<|(Qm)<|(gu)<|(Qm)<|(gu)<|(Qm)<|(Qaw)<|(Qaw)<|(jj)<|(jf)<|(gb)<|(gu)<|(Qm)<|(gu)<|(Qxw) ?_
 refine (Ca (z9X _))<|(jj)<|(jf)<|(Qm)<|(gu)<|(Qm)<|(gu)<|(Qaw)<|(jj)<|(jf)<|(gb)<|(gu)<|(Qm)<|(gu)<|(Qxw) ?_
 refine (Ca (zbI _))<|(jj)<|(jf)<|(Qm)<|(gu)<|(Qm)<|(gu)<|(Qm)<|(Qaw)<|(Qaw)<|(jj)<|(jf)<|(gb)<|(gu)<|(Qm)<|(gu)<|(Qxw) ?_
 refine (Ca (zbW _))<|(jj)<|(jf)<|(Qm)<|(gu)<|(Qm)<|(gu)<|(Qaw)<|(jj)<|Qn<|(Qg)<|(gb)<|(gu)<|(Qm)<|(gu)<|(Qxw) ?_
 refine (Ca (zcs _))<|(jj)<|Qn ?_
 exact ⟨rfl, 0, rfl⟩
theorem zeA {G : Mem} (f : NN) (r a b c d x y : Nat) (ha : a < 16) (hb : b < 16) (hc : c < 16) (hd : d < 16) (ab : a ≠ b) (ac : a ≠ c) (ad : a ≠ d) (bc : b ≠ c) (bd : b ≠ d) (cd : c ≠ d) : Fq G [⟨r, arr .u32 16 f, 216⟩] 205 #[ii a, ii b, ii c, ii d, uw x, uw y, ptr r] (fun v l1 nw => v = .tuple #[] ∧ l1 = [⟨r, arr .u32 16 (mat f a b c d x y), 216⟩] ∧ nw = []) := by
 rw [← zg4 f x y ab ac ad bc bd cd]
 exact ziB f r a b c d x y ha hb hc hd
abbrev DOR : Blk := ⟨5, arr .i64 160 sgf, 256⟩
theorem z09 (f g : NN) : Fp (DOR :: G) 177 #[.agg (arr .u32 16 f), .agg (arr .u32 16 g)] (.agg (arr .u32 16 (wW g f 10))) := by
 refine Qf1 Tryz.func177 ?_
 refine (g4)<|(Qh 0) fun r1=>(Qh 1) fun r2=>(QH 2) fun r3=>(gj)<|(QY)<|(g3)<|(ji) ?_
 refine QzK [(2, _), (3, _), (4, _), (5, _)] [(1, _), (2, _)] (fun kk E m => ∃ (r : Nat), kk = 10 - r ∧ E = [(10, ii r)] ∧ m = [(0, some ⟨r1, arr .u32 16 (wW g f r), 216⟩)] ∧ (r ≤ 10)) ⟨0, rfl, rfl, rfl, by omega⟩ ⟨rfl, rfl, rfl, rfl, rfl, trivial⟩ ⟨(xW (zag g f)), rfl, rfl, trivial⟩ ?_
 rintro kk E m ⟨r, rfl, rfl, rfl, hf0_0⟩
 simp only [zq, zx]
 refine (gq) ?_
 refine (Qcd) (fun hc0=>?_) fun hc0=>?_
 ·have hc0 : r < 10 := by omega
  refine (jr)<|(g3)<|(ji) ?_
  refine QzK [(2, _), (3, _), (4, _), (5, _), (6, _), (10, _)] [(1, _), (2, _)] (fun kk E m => ∃ (i : Nat), kk = 4 - i ∧ E = [(13, ii i)] ∧ m = [(0, some ⟨r1, arr .u32 16 (Zm g r (wW g f r) i), 216⟩)] ∧ (i ≤ 4)) ⟨0, rfl, rfl, rfl, by omega⟩ ⟨rfl, rfl, rfl, rfl, rfl, rfl, rfl, trivial⟩ ⟨(xW (zb9 g r (wW g f r))), rfl, rfl, trivial⟩ ?_
  rintro kk E m ⟨i, rfl, rfl, rfl, hf1_0⟩
  simp only [zq, zx]
  refine (gq) ?_
  refine (Qcd) (fun hc1=>?_) fun hc1=>?_
  ·have hc1 : i < 4 := by omega
   refine (jr)<|(g3)<|(Qq ⟨[], 5, [], none, none⟩)<|(gb)<|(Qm) ?_
   refine y3 (p := 4) rfl rfl rfl (by omega) ?_
   refine (Qm) ?_
   refine y3 (p := 8) rfl rfl rfl (by omega) ?_
   refine (Qm) ?_
   refine y3 (p := 12) rfl rfl rfl (by omega) ?_
   refine (gb)<|(Q7 2)<|(QB (16 * r))<|(QB (16 * r + 2 * i)) ?_
   refine yl (i := 0) (Uu 3) rfl rfl rfl (zO (by omega)) rfl ?_
   refine Zh (Uu 216) (Uz 109) rfl rfl (wK r (2 * i)) rfl ?_
   refine y7 (i := 1) (Uu 109) rfl rfl rfl (zO (wK r (2 * i))) rfl ⟨[], trivial⟩ ?_
   refine (gb)<|(Q7 2)<|(Q2 1)<|(QB (16 * r))<|(QB (16 * r + (2 * i + 1))) ?_
   refine yl (i := 0) (Uu 3) rfl rfl rfl (zO (by omega)) rfl ?_
   refine Zh (Uu 216) (Uz 109) rfl rfl (wK r (2 * i + 1)) rfl ?_
   refine y7 (i := 1) (Uu 109) rfl rfl rfl (zO (wK r (2 * i + 1))) rfl ⟨[], trivial⟩ ?_
   refine VH 0 rfl rfl (Un 205) rfl (by simp) (zeA (G := []) (Zm g r (wW g f r) i) r1 i (4 + i) (8 + i) (12 + i) (g (sig r (2 * i))) (g (sig r (2 * i + 1))) (by omega) (by omega) (by omega) (by omega) (by omega) (by omega) (by omega) (by omega) (by omega) (by omega)) rfl rfl ?_
   refine (jc) ?_
   refine QzL ⟨i + 1, rfl, rfl, rfl, by omega⟩ ⟨rfl, rfl, rfl, rfl, rfl, rfl, rfl, trivial⟩ ⟨(xW (z9s g r (wW g f r) i)), rfl, rfl, trivial⟩ ?_
   omega
  ·have hz1 : i = 4 := by omega
   refine Qe<|(g6)<|Qn<|Qb ?_
   refine QzK [(2, _), (3, _), (4, _), (5, _), (6, _), (10, _), (13, _)] [(1, _), (2, _)] (fun kk E m => ∃ (j : Nat), kk = 4 - j ∧ E = [(43, ii j)] ∧ m = [(0, some ⟨r1, arr .u32 16 (wl g r (Zm g r (wW g f r) 4) j), 216⟩)] ∧ (j ≤ 4)) ⟨0, rfl, rfl, rfl, by omega⟩ ⟨rfl, rfl, rfl, rfl, rfl, rfl, rfl, rfl, trivial⟩ ⟨(xW ((congrArg (Zm g r (wW g f r)) hz1).trans (zbD g r (Zm g r (wW g f r) 4)))), rfl, rfl, trivial⟩ ?_
   rintro kk E m ⟨j, rfl, rfl, rfl, hf2_0⟩
   simp only [zq, zx]
   refine (gq) ?_
   refine (Qcd) (fun hc2=>?_) fun hc2=>?_
   ·have hc2 : j < 4 := by omega
    refine (jr)<|(g3)<|(Qq ⟨[], 5, [], none, none⟩)<|(gb)<|(Qm)<|(Q2 1)<|(Q4 4) ?_
    refine y3 (p := 4) rfl rfl rfl (by omega) ?_
    refine (Qm)<|(Q2 2)<|(Q4 4) ?_
    refine y3 (p := 8) rfl rfl rfl (by omega) ?_
    refine (Qm)<|(Q2 3)<|(Q4 4) ?_
    refine y3 (p := 12) rfl rfl rfl (by omega) ?_
    refine (gb)<|(Q7 2) ?_
    refine y3 (p := 8) rfl rfl rfl (by omega) ?_
    refine (QB (16 * r))<|(QB (16 * r + (8 + 2 * j))) ?_
    refine yl (i := 0) (Uu 3) rfl rfl rfl (zO (by omega)) rfl ?_
    refine Zh (Uu 216) (Uz 109) rfl rfl (wK r (8 + 2 * j)) rfl ?_
    refine y7 (i := 1) (Uu 109) rfl rfl rfl (zO (wK r (8 + 2 * j))) rfl ⟨[], trivial⟩ ?_
    refine (gb)<|(Q7 2) ?_
    refine y3 (p := 9) rfl rfl rfl (by omega) ?_
    refine (QB (16 * r))<|(QB (16 * r + (9 + 2 * j))) ?_
    refine yl (i := 0) (Uu 3) rfl rfl rfl (zO (by omega)) rfl ?_
    refine Zh (Uu 216) (Uz 109) rfl rfl (wK r (9 + 2 * j)) rfl ?_
    refine y7 (i := 1) (Uu 109) rfl rfl rfl (zO (wK r (9 + 2 * j))) rfl ⟨[], trivial⟩ ?_
    refine VH 0 rfl rfl (Un 205) rfl (by simp) (zeA (G := []) (wl g r (Zm g r (wW g f r) 4) j) r1 j (4 + (j + 1) % 4) (8 + (j + 2) % 4) (12 + (j + 3) % 4) (g (sig r (8 + 2 * j))) (g (sig r (9 + 2 * j))) (by omega) (by omega) (by omega) (by omega) (by omega) (by omega) (by omega) (by omega) (by omega) (by omega)) rfl rfl ?_
    refine (jc) ?_
    refine QzL ⟨j + 1, rfl, rfl, rfl, by omega⟩ ⟨rfl, rfl, rfl, rfl, rfl, rfl, rfl, rfl, trivial⟩ ⟨(xW (zao g r (Zm g r (wW g f r) 4) j)), rfl, rfl, trivial⟩ ?_
    omega
   ·have hz2 : j = 4 := by omega
    refine Qe<|(gl) ?_
    refine QzL ⟨r + 1, rfl, rfl, rfl, by omega⟩ ⟨rfl, rfl, rfl, rfl, rfl, trivial⟩ ⟨(xW ((congrArg (wl g r (Zm g r (wW g f r) 4)) hz2).trans (zaB g f r))), rfl, rfl, trivial⟩ ?_
    omega
 ·have hz0 : r = 10 := by omega
  refine (jo)<|(Qd 0)<|(Qt 2)<|Qn<|Qr ?_
  rw [show wW g f 10 = wW g f r by rw [hz0]]
  exact ⟨_, rfl, ya 2⟩
theorem z5a (d : NN) (hd : L8 64 d) : Fp G 179 #[.agg (arr .u8 64 d)] (.agg (arr .u32 16 (wrd ((List.range 64).map d)))) := by
 refine Qf1 Tryz.func179 ?_
 refine (g4)<|(Qh 0) fun r1=>(QH 1) fun r2=>(gj)<|(QH 2) fun r3=>Qn<|(gs)<|(Qd 0)<|(Qm)<|Qn<|Qb ?_
 refine QzK [(2, _), (3, _), (6, _)] [(0, _), (1, _)] (fun kk E m => ∃ (i : Nat) (s : Nat → Nat), kk = 64 - i ∧ E = [(7, ii i)] ∧ m = [(2, some ⟨r3, arr .u32 16 s, 216⟩)] ∧ (i ≤ 64) ∧ (∀ t, t < 16 → s t = pw d i t)) ⟨0, fun _ => 0, rfl, rfl, rfl, by omega, fun t _ => (z9k d t).symm⟩ ⟨rfl, rfl, rfl, rfl, trivial⟩ ⟨rfl, rfl, rfl, trivial⟩ ?_
 rintro kk E m ⟨i, s, rfl, rfl, rfl, hf0_0, hf0_1⟩
 simp only [zq, zx]
 refine (gq) ?_
 refine (Qcd) (fun hc0=>?_) fun hc0=>?_
 ·have hc0 : i < 64 := by omega
  refine (jr)<|(QX)<|(g8)<|(Qg)<|(Qm)<|(Q5 4)<|(Qi)<|(Q1 2)<|(Qm)<|(Qcw) ?_
  refine z6 (congrArg uw (Nat.mod_eq_of_lt (Nat.lt_trans (hd i (by omega)) (by decide)))) ?_
  refine (Qm)<|(Q4 4)<|(Q6 8) ?_
  refine vn rfl rfl rfl (by omega) ?_
  refine ZJ rfl rfl rfl  ?_
  refine (Qi)<|(Qu 2)<|(jc) ?_
  refine QzL ⟨i + 1, upd s (i / 4) _, rfl, rfl, rfl, by omega, z7M hd (by omega) hf0_1⟩ ⟨rfl, rfl, rfl, rfl, trivial⟩ ⟨rfl, rfl, rfl, trivial⟩ ?_
  omega
 ·have hz0 : i = 64 := by omega
  subst hz0
  refine (jo)<|(Qd 2)<|(j4)<|Qr ?_
  rw [← zh (k := .u32) (n := 16) (zb2 d), ← zh (k := .u32) (n := 16) hf0_1]
  exact ⟨_, rfl, ya 1⟩
theorem z7C : Fp G 142 #[] (.agg (arr .u32 8 ivf)) := by
 refine Qf1 Tryz.func142 ?_
 refine (g4)<|(QH 0) fun r1=>(gj) ?_
 refine zV (arr .u32 8 ivf) (Ub 110 rfl) (Uu 110 rfl) (Uz 109 rfl) rfl (by kernel_rfl) rfl ?_
 refine (Qt 0)<|Qn<|Qr ?_
 exact ⟨_, rfl, ya 0⟩
theorem z56 (h d : NN) (n ln : Nat) (hl : ln < 4294967296) : Fp G 178 #[.agg (cells 74 [pI .u32 8 h, pI .u8 64 d, pV (.int .i64 (n : Int)), pV (.int .i64 (ln : Int))]), .bool true] (.agg (arr .u32 16 (w0 h ln true))) := by
 refine Qf1 Tryz.func178 ?_
 refine (g4)<|(Qh 0) fun r1=>(QH 1) fun r2=>(gj)<|(QH 2) fun r3=>Qn<|(gs) ?_
 refine (Ca z7C)<|(Qm)<|Qn<|Qb ?_
 refine QzK [(1, _), (2, _), (4, _), (5, _), (8, _)] [(0, _), (1, _)] (fun kk E m => ∃ (i : Nat) (s : Nat → Nat), kk = 8 - i ∧ E = [(9, ii i)] ∧ m = [(2, some ⟨r3, arr .u32 16 s, 216⟩)] ∧ (i ≤ 8) ∧ (∀ t, t < 16 → s t = if t % 8 < i then w00 h t else 0)) ⟨0, fun _ => 0, rfl, rfl, rfl, by omega, fun t _ => by rw [if_neg (by omega)]⟩ ⟨rfl, rfl, rfl, rfl, rfl, rfl, trivial⟩ ⟨rfl, rfl, rfl, trivial⟩ ?_
 rintro kk E m ⟨i, s, rfl, rfl, rfl, hf0_0, hf0_1⟩
 simp only [zq, zx]
 refine (gq) ?_
 refine (Qcd) (fun hc0=>?_) fun hc0=>?_
 ·have hc0 : i < 8 := by omega
  refine (jr)<|(QX)<|(g8)<|Qp<|(gb) ?_
  refine y3 (p := 8) rfl rfl rfl (by omega) ?_
  refine (Qm)<|(Qf 0)<|(Qi) ?_
  refine z1H (i := 0) 0 (i) (Uu 109) rfl rfl rfl rfl (by first | rfl | omega) (by omega) (by omega) rfl ⟨[], trivial⟩ ?_
  refine (Qm)<|(Qi)<|(Qu 2)<|(Qi)<|(Qu 2)<|(jc) ?_
  refine QzL ⟨i + 1, upd (upd s i _) (8 + i) _, rfl, rfl, rfl, by omega, XR (by omega) hf0_1⟩ ⟨rfl, rfl, rfl, rfl, rfl, rfl, trivial⟩ ⟨rfl, rfl, rfl, trivial⟩ ?_
  omega
 ·have hz0 : i = 8 := by omega
  subst hz0
  refine (jo)<|(Qj 12)<|(Q1 2)<|(Qf 73)<|(QV 3 0)<|(Qcw)<|(Qxw)<|(Qj 12)<|(Qu 2)<|(gj)<|(Qj 13)<|(Q1 2)<|(Qf 73)<|(QV 3 0) ?_
  refine z38 (s := 32) rfl rfl rfl (by omega) ?_
  refine (Ai (show ln / 2 ^ 32 = 0 by omega))<|(Qcw)<|(Qxw)<|(Qj 13)<|(Qu 2)<|Qn<|(ge)<|(gv)<|Qp<|(Qj 14)<|(Q1 2) ?_
  refine z2A rfl rfl ?_
  refine (Qj 14)<|(Qu 2)<|(gj)<|(Qd 2)<|(j4)<|Qr ?_
  rw [← zh (zcR hf0_1)]
  exact ⟨_, rfl, ya 1⟩
theorem z3M (h d : NN) (n ln : Nat) (hl : ln < 4294967296) : Fp G 178 #[.agg (cells 74 [pI .u32 8 h, pI .u8 64 d, pV (.int .i64 (n : Int)), pV (.int .i64 (ln : Int))]), .bool false] (.agg (arr .u32 16 (w0 h ln false))) := by
 refine Qf1 Tryz.func178 ?_
 refine (g4)<|(Qh 0) fun r1=>(QH 1) fun r2=>(gj)<|(QH 2) fun r3=>Qn<|(gs) ?_
 refine (Ca z7C)<|(Qm)<|Qn<|Qb ?_
 refine QzK [(1, _), (2, _), (4, _), (5, _), (8, _)] [(0, _), (1, _)] (fun kk E m => ∃ (i : Nat) (s : Nat → Nat), kk = 8 - i ∧ E = [(9, ii i)] ∧ m = [(2, some ⟨r3, arr .u32 16 s, 216⟩)] ∧ (i ≤ 8) ∧ (∀ t, t < 16 → s t = if t % 8 < i then w00 h t else 0)) ⟨0, fun _ => 0, rfl, rfl, rfl, by omega, fun t _ => by rw [if_neg (by omega)]⟩ ⟨rfl, rfl, rfl, rfl, rfl, rfl, trivial⟩ ⟨rfl, rfl, rfl, trivial⟩ ?_
 rintro kk E m ⟨i, s, rfl, rfl, rfl, hf0_0, hf0_1⟩
 simp only [zq, zx]
 refine (gq) ?_
 refine (Qcd) (fun hc0=>?_) fun hc0=>?_
 ·have hc0 : i < 8 := by omega
  refine (jr)<|(QX)<|(g8)<|Qp<|(gb) ?_
  refine y3 (p := 8) rfl rfl rfl (by omega) ?_
  refine (Qm)<|(Qf 0)<|(Qi) ?_
  refine z1H (i := 0) 0 (i) (Uu 109) rfl rfl rfl rfl (by first | rfl | omega) (by omega) (by omega) rfl ⟨[], trivial⟩ ?_
  refine (Qm)<|(Qi)<|(Qu 2)<|(Qi)<|(Qu 2)<|(jc) ?_
  refine QzL ⟨i + 1, upd (upd s i _) (8 + i) _, rfl, rfl, rfl, by omega, XR (by omega) hf0_1⟩ ⟨rfl, rfl, rfl, rfl, rfl, rfl, trivial⟩ ⟨rfl, rfl, rfl, trivial⟩ ?_
  omega
 ·have hz0 : i = 8 := by omega
  subst hz0
  refine (jo)<|(Qj 12)<|(Q1 2)<|(Qf 73)<|(QV 3 0)<|(Qcw)<|(Qxw)<|(Qj 12)<|(Qu 2)<|(gj)<|(Qj 13)<|(Q1 2)<|(Qf 73)<|(QV 3 0) ?_
  refine z38 (s := 32) rfl rfl rfl (by omega) ?_
  refine (Ai (show ln / 2 ^ 32 = 0 by omega))<|(Qcw)<|(Qxw)<|(Qj 13)<|(Qu 2)<|Qn<|(ge)<|(go)<|(g4)<|(Qd 2)<|(j4)<|Qr ?_
  rw [← zh (z22 hf0_1)]
  exact ⟨_, rfl, ya 1⟩
theorem z7L : Fp G 108 #[] (.agg (cells 74 [pI .u32 8 z1n, pI .u8 64 (fun _ => 0), pV (.int .i64 0), pV (.int .i64 0)])) := by
 refine Qf1 Tryz.func108 ?_
 refine (g4)<|(QH 0) fun r1=>(gj) ?_
 refine (Ca z7C)<|(QH 1) fun r2=>(Qt 1)<|(gj)<|(Qj 0)<|(Q1 1) ?_
 refine z2P (q := 16842784) rfl rfl rfl  ?_
 refine (Qj 0)<|(Qu 1)<|(gj)<|(Qd 1) ?_
 refine zA (cells 74 [pI .u32 8 z1n, pI .u8 64 (fun _ => 0), pV (.int .i64 0), pV (.int .i64 0)]) (Ub 113 rfl) (Uu 113 rfl) z33 rfl (by kernel_rfl) rfl ?_
 refine (QW 0)<|Qn<|Qr ?_
 exact ⟨_, rfl, yb 0⟩
theorem za0 (h d : NN) (n ln : Nat) (hd : L8 64 d) (hl : ln < 4294967296) : Fp (DOR :: G) 141 #[.agg (cells 74 [pI .u32 8 h, pI .u8 64 d, pV (.int .i64 (n : Int)), pV (.int .i64 (ln : Int))]), .bool true] (.agg (arr .u32 8 (sqz h ((List.range 64).map d) ln true))) := by
 obtain ⟨v, hv⟩ : ∃ v, v = wW (wrd ((List.range 64).map d)) (w0 h ln true) 10 := ⟨_, rfl⟩
 have hvb : ∀ t, t < 16 → v t = brs ((List.range 64).map d) (w0 h ln true) 10 t := fun t ht => by rw [hv]; exact z3j (fun _ _ => rfl) 10 t ht
 obtain ⟨z, hz⟩ : ∃ z, z = sqz h ((List.range 64).map d) ln true := ⟨_, rfl⟩
 rw [← hz]
 refine Qf1 Tryz.func141 ?_
 refine (g4)<|(Qh 0) fun r1=>(QH 1) fun r2=>(jf)<|(QD 0)<|(Qm) ?_
 refine (Ca (z56 h d n ln hl))<|(Qf 8)<|(Qv 1 0) ?_
 refine (Ca (z5a d hd)) ?_
 refine (Ca (z09 (w0 h ln true) (wrd ((List.range 64).map d)))) ?_
 refine z6 (congrArg (fun f => Value.agg (arr .u32 16 f)) hv.symm) ?_
 refine (QH 2) fun r3=>(Qt 2)<|Qn<|(ji) ?_
 refine QzK [(2, _), (4, _), (5, _)] [(1, _), (2, _)] (fun kk E m => ∃ (q : Nat) (s : Nat → Nat), kk = 8 - q ∧ E = [(14, ii q)] ∧ m = [(0, some ⟨r1, cells 74 [pI .u32 8 s, pI .u8 64 d, pV (.int .i64 (n : Int)), pV (.int .i64 (ln : Int))], 113⟩)] ∧ (q ≤ 8) ∧ (∀ t, t < 8 → s t = if t < q then z t else h t)) ⟨0, h, rfl, rfl, rfl, by omega, fun t _ => by rw [if_neg (by omega)]⟩ ⟨rfl, rfl, rfl, rfl, trivial⟩ ⟨rfl, rfl, rfl, trivial⟩ ?_
 rintro kk E m ⟨q, s, rfl, rfl, rfl, hf0_0, hf0_1⟩
 simp only [zq, zx]
 refine (gq) ?_
 refine (Qcd) (fun hc0=>?_) fun hc0=>?_
 ·have hc0 : q < 8 := by omega
  refine (jr)<|(g3)<|(Qg)<|(Qm)<|(Qf 0)<|(Qi) ?_
  refine z1H (i := 0) 0 (q) (Uu 109) rfl rfl rfl rfl (by first | rfl | omega) (by omega) (by omega) rfl ⟨[], trivial⟩ ?_
  refine (Qm)<|(Qi)<|(Q1 2)<|(Qm) ?_
  refine y3 (p := 8) rfl rfl rfl (by omega) ?_
  refine (Qi)<|(Q1 2)<|(Qxw)<|(Qxw)<|(Qf 0)<|(Qi) ?_
  refine z97 (i := 0) 0 (q) (Uz 109) rfl rfl rfl rfl (by first | rfl | omega) (by omega) (by omega) (.inl rfl) ?_
  refine (jc) ?_
  refine QzL ⟨q + 1, upd s q _, rfl, rfl, rfl, by omega, z59 (by omega) hvb hz hf0_1⟩ ⟨rfl, rfl, rfl, rfl, trivial⟩ ⟨rfl, rfl, rfl, trivial⟩ ?_
  omega
 ·have hz0 : q = 8 := by omega
  subst hz0
  refine (jo)<|(j9)<|(j4)<|Qr ?_
  rw [← zh (k := .u32) (n := 8) (fun t ht => (hf0_1 t ht).trans (if_pos (by omega)))]
  exact ⟨_, rfl, ya 1⟩
theorem z7k (h d : NN) (n ln : Nat) (hd : L8 64 d) (hl : ln < 4294967296) : Fp (DOR :: G) 141 #[.agg (cells 74 [pI .u32 8 h, pI .u8 64 d, pV (.int .i64 (n : Int)), pV (.int .i64 (ln : Int))]), .bool false] (.agg (arr .u32 8 (sqz h ((List.range 64).map d) ln false))) := by
 obtain ⟨v, hv⟩ : ∃ v, v = wW (wrd ((List.range 64).map d)) (w0 h ln false) 10 := ⟨_, rfl⟩
 have hvb : ∀ t, t < 16 → v t = brs ((List.range 64).map d) (w0 h ln false) 10 t := fun t ht => by rw [hv]; exact z3j (fun _ _ => rfl) 10 t ht
 obtain ⟨z, hz⟩ : ∃ z, z = sqz h ((List.range 64).map d) ln false := ⟨_, rfl⟩
 rw [← hz]
 refine Qf1 Tryz.func141 ?_
 refine (g4)<|(Qh 0) fun r1=>(QH 1) fun r2=>(jf)<|(QD 0)<|(Qm) ?_
 refine (Ca (z3M h d n ln hl))<|(Qf 8)<|(Qv 1 0) ?_
 refine (Ca (z5a d hd)) ?_
 refine (Ca (z09 (w0 h ln false) (wrd ((List.range 64).map d)))) ?_
 refine z6 (congrArg (fun f => Value.agg (arr .u32 16 f)) hv.symm) ?_
 refine (QH 2) fun r3=>(Qt 2)<|Qn<|(ji) ?_
 refine QzK [(2, _), (4, _), (5, _)] [(1, _), (2, _)] (fun kk E m => ∃ (q : Nat) (s : Nat → Nat), kk = 8 - q ∧ E = [(14, ii q)] ∧ m = [(0, some ⟨r1, cells 74 [pI .u32 8 s, pI .u8 64 d, pV (.int .i64 (n : Int)), pV (.int .i64 (ln : Int))], 113⟩)] ∧ (q ≤ 8) ∧ (∀ t, t < 8 → s t = if t < q then z t else h t)) ⟨0, h, rfl, rfl, rfl, by omega, fun t _ => by rw [if_neg (by omega)]⟩ ⟨rfl, rfl, rfl, rfl, trivial⟩ ⟨rfl, rfl, rfl, trivial⟩ ?_
 rintro kk E m ⟨q, s, rfl, rfl, rfl, hf0_0, hf0_1⟩
 simp only [zq, zx]
 refine (gq) ?_
 refine (Qcd) (fun hc0=>?_) fun hc0=>?_
 ·have hc0 : q < 8 := by omega
  refine (jr)<|(g3)<|(Qg)<|(Qm)<|(Qf 0)<|(Qi) ?_
  refine z1H (i := 0) 0 (q) (Uu 109) rfl rfl rfl rfl (by first | rfl | omega) (by omega) (by omega) rfl ⟨[], trivial⟩ ?_
  refine (Qm)<|(Qi)<|(Q1 2)<|(Qm) ?_
  refine y3 (p := 8) rfl rfl rfl (by omega) ?_
  refine (Qi)<|(Q1 2)<|(Qxw)<|(Qxw)<|(Qf 0)<|(Qi) ?_
  refine z97 (i := 0) 0 (q) (Uz 109) rfl rfl rfl rfl (by first | rfl | omega) (by omega) (by omega) (.inl rfl) ?_
  refine (jc) ?_
  refine QzL ⟨q + 1, upd s q _, rfl, rfl, rfl, by omega, z59 (by omega) hvb hz hf0_1⟩ ⟨rfl, rfl, rfl, rfl, trivial⟩ ⟨rfl, rfl, rfl, trivial⟩ ?_
  omega
 ·have hz0 : q = 8 := by omega
  subst hz0
  refine (jo)<|(j9)<|(j4)<|Qr ?_
  rw [← zh (k := .u32) (n := 8) (fun t ht => (hf0_1 t ht).trans (if_pos (by omega)))]
  exact ⟨_, rfl, ya 1⟩
end Go.Proofs.YtlidhfijmcelpaaGreatDoor
