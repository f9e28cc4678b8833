import Derived.Test.YtacflmjoigffpaaGreatDoorKX9
import Derived.Test.YtacflmjoigffpaaGreatDoorRows
set_option maxRecDepth 30000
set_option maxHeartbeats 4000000
attribute [local simp] Go.Proofs.YtacflmjoigffpaaGreatDoor.By Go.Proofs.YtacflmjoigffpaaGreatDoor.L8
namespace Go.Proofs.YtacflmjoigffpaaGreatDoor
open Go Go.RowKit
variable {G : Mem}
theorem zco (f : NN) (hf : L8 32 f) : Fp G 281 #[.agg (arr .u8 32 f)] (PV (w8 (bL f)) (fun j => w8 (bL f) (j + 2)) (fun _ => 0) (fun _ => 0) 0) := by
 refine Qf1 Tryz.func281 ?_
 refine (g4)<|(Qh 0) fun r1=>(QH 1) fun r2=>Qn<|(gy) ?_
 refine Z4 0 16 (Uu 30) (Uz 5) rfl rfl rfl rfl ⟨_, rfl⟩ (by omega) (by omega) (by omega) rfl ?_
 refine z3I (Uu 262) rfl (by omega) rfl ?_
 refine (Qls 0) ?_
 refine (Aa (fun j _ => congrArg f (Nat.zero_add j))) ?_
 refine (Ca (z1y f (fun j hj => hf j (by omega)))) ?_
 refine Z4 16 32 (Uu 30) (Uz 5) rfl rfl rfl ⟨_, rfl⟩ rfl (by omega) (by omega) (by omega) rfl ?_
 refine z3I (Uu 262) rfl (by omega) rfl ?_
 refine (Qls 0) ?_
 refine zC rfl (Un 294) (z1y (fun t => f (16 + t)) (fun j hj => hf _ (by omega))) rfl rfl ?_
 refine (Aa (zjt hf))<|(QH 2) fun r3=>(QH 3) fun r4=>(Qt 2)<|(Qt 3)<|Qn<|(gy)<|(Qd 2) ?_
 refine (Ca (wh _)) ?_
 refine (Aa (z2S hf))<|(Qd 3) ?_
 refine yn (zr 24 [pI .u64 2 (w8 (bL f)), pI .u64 2 (fun j => w8 (bL f) (j + 2)), pI .u64 3 (fun _ => 0), pI .u8 16 (fun _ => 0), pV (.int .i64 0)]) (Ub 292 rfl) (Uu 292 rfl) zlY rfl rfl rfl ?_
 refine (QW 1)<|Qn<|Qr ?_
 exact ⟨_, rfl, yb 1⟩
theorem Vu (r p a h : NN) (n : Int) (ha0 : a 0 < 18446744073709551616) (ha1 : a 1 < 18446744073709551616) (ha2 : a 2 < 18446744073709551616) (hr0 : r 0 < 18446744073709551616) (hr1 : r 1 < 18446744073709551616) : Fp G 292 #[PV r p a h n] (ii (if (YC r a n && okh n h 16) = true then 0 else 9)) := by
 refine Qf1 Tryz.func292 ?_
 refine (g4)<|(Qh 0) fun r1=>(g3)<|Qs<|Qs ?_
 rcases zm8 (n := n) hr0 hr1 ha0 ha1 ha2 with ⟨hk0, hko⟩ | ⟨hk0, hk1, hko⟩ | ⟨hk0, hk1, hk2, hko⟩ | ⟨hk0, hk1, hk2, hk3, hko⟩ | ⟨hk0, hk1, k, rfl, hk3, hko⟩
 ·skip
  refine (Qg)<|(Qf 0)<|(Qv 0 0) ?_
  refine (Ca (wh _))<|(Qf 0)<|(Qv 0 0) ?_
  refine z38 (Uu 289) (Uu 31) (Uz 31) z0y rfl rfl rfl ?_
  refine zi (congrArg (fun z => Value.bool (!z)) hk0) ?_
  refine (Qm)<|(gm)<|(QT)<|(Qm)<|(gz)<|(QT)<|(Qm)<|(gz)<|(QT)<|Qn<|(Qct) ?_
  have hfin := z9q (d := okh n h 16) hko
  refine (gw) ?_
  first | rw [if_pos hfin] | rw [if_neg hfin]
  exact ⟨_, rfl, yt⟩
 ·skip
  refine (Qg)<|(Qf 0)<|(Qv 0 0) ?_
  refine (Ca (wh _))<|(Qf 0)<|(Qv 0 0) ?_
  refine z38 (Uu 289) (Uu 31) (Uz 31) z0y rfl rfl rfl ?_
  refine zi (congrArg (fun z => Value.bool (!z)) hk0) ?_
  refine (g8)<|(Qf 4)<|(Qy)<|(Qv 2 0) ?_
  refine zi (YK (YF ha0 ha1 ha2)).symm ?_
  refine (Qy) ?_
  refine (Ca (Xs (w3 a) (Wu ha0 ha1 ha2)))<|(Qy)<|(Q0) ?_
  refine zi (congrArg (fun z => Value.bool (!z)) (decide_eq_false hk1)) ?_
  refine (QF)<|(Qm)<|(gz)<|(QT)<|(Qm)<|(gz)<|(QT)<|Qn<|(Qct) ?_
  have hfin := z9q (d := okh n h 16) hko
  refine (gw) ?_
  first | rw [if_pos hfin] | rw [if_neg hfin]
  exact ⟨_, rfl, yt⟩
 ·skip
  refine (Qg)<|(Qf 0)<|(Qv 0 0) ?_
  refine (Ca (wh _))<|(Qf 0)<|(Qv 0 0) ?_
  refine z38 (Uu 289) (Uu 31) (Uz 31) z0y rfl rfl rfl ?_
  refine zi (congrArg (fun z => Value.bool (!z)) hk0) ?_
  refine (g8)<|(Qf 4)<|(Qy)<|(Qv 2 0) ?_
  refine zi (YK (YF ha0 ha1 ha2)).symm ?_
  refine (Qy) ?_
  refine (Ca (Xs (w3 a) (Wu ha0 ha1 ha2)))<|(Qy)<|(Q0) ?_
  refine zi (congrArg (fun z => Value.bool (!z)) (decide_eq_true hk1)) ?_
  refine (QF)<|(g8)<|(Qf 23)<|(Qy)<|(QV 4 0)<|(Qy)<|(Ql)<|(Qat)<|(QF)<|(Qm)<|(gz)<|(QT)<|Qn<|(Qct) ?_
  have hfin := z9q (d := okh n h 16) hko
  refine (gw) ?_
  first | rw [if_pos hfin] | rw [if_neg hfin]
  exact ⟨_, rfl, yt⟩
 ·skip
  refine (Qg)<|(Qf 0)<|(Qv 0 0) ?_
  refine (Ca (wh _))<|(Qf 0)<|(Qv 0 0) ?_
  refine z38 (Uu 289) (Uu 31) (Uz 31) z0y rfl rfl rfl ?_
  refine zi (congrArg (fun z => Value.bool (!z)) hk0) ?_
  refine (g8)<|(Qf 4)<|(Qy)<|(Qv 2 0) ?_
  refine zi (YK (YF ha0 ha1 ha2)).symm ?_
  refine (Qy) ?_
  refine (Ca (Xs (w3 a) (Wu ha0 ha1 ha2)))<|(Qy)<|(Q0) ?_
  refine zi (congrArg (fun z => Value.bool (!z)) (decide_eq_true hk1)) ?_
  refine (QF)<|(g8)<|(Qf 23)<|(Qy)<|(QV 4 0)<|(Qy)<|(Ql)<|(Qaf)<|(QF)<|(g8)<|(Qf 23)<|(Qy)<|(QV 4 0)<|(Qy)<|(QE)<|(Qat)<|(QF)<|Qn<|(Qct) ?_
  have hfin := z9q (d := okh n h 16) hko
  refine (gw) ?_
  first | rw [if_pos hfin] | rw [if_neg hfin]
  exact ⟨_, rfl, yt⟩
 ·skip
  refine (Qg)<|(Qf 0)<|(Qv 0 0) ?_
  refine (Ca (wh _))<|(Qf 0)<|(Qv 0 0) ?_
  refine z38 (Uu 289) (Uu 31) (Uz 31) z0y rfl rfl rfl ?_
  refine zi (congrArg (fun z => Value.bool (!z)) hk0) ?_
  refine (g8)<|(Qf 4)<|(Qy)<|(Qv 2 0) ?_
  refine zi (YK (YF ha0 ha1 ha2)).symm ?_
  refine (Qy) ?_
  refine (Ca (Xs (w3 a) (Wu ha0 ha1 ha2)))<|(Qy)<|(Q0) ?_
  refine zi (congrArg (fun z => Value.bool (!z)) (decide_eq_true hk1)) ?_
  refine (QF)<|(g8)<|(Qf 23)<|(Qy)<|(QV 4 0)<|(Qy)<|(Ql)<|(Qaf)<|(QF)<|(g8)<|(Qf 23)<|(Qy)<|(QV 4 0)<|(Qy)<|(QE)<|(Qaf)<|(QF)<|(gp)<|(gu)<|(Qf 7)<|(Qf 23)<|(QV 4 0) ?_
  refine Z4 k 16 (Uu 262) (Uz 5) rfl rfl rfl ⟨_, rfl⟩ rfl (by omega) (by omega) (by omega) rfl ?_
  refine z3Y (Uu 22) rfl rfl rfl ?_
  refine (Qm)<|Qn<|Qb ?_
  refine QzK [(30, _), (31, _)] [(0, _)] (fun kk E m => ∃ (i : Nat), kk = 16 - k - i ∧ E = [(32, ii i)] ∧ m = [] ∧ (i ≤ 16 - k) ∧ (∀ j, j < i → h (k + j) = 0)) ⟨0, rfl, rfl, rfl, by omega, fun j hj => absurd hj (Nat.not_lt_zero j)⟩ ⟨rfl, rfl, rfl, trivial⟩ ⟨rfl, trivial⟩ ?_
  rintro kk E m ⟨i, rfl, rfl, rfl, hf0_0, hf0_1⟩
  simp only [zB, zA]
  refine (gt) ?_
  refine (Qcd) (fun hc1=>?_) fun hc1=>?_
  ·have hc1 : i < 16 - k := by omega
   refine Qk<|Qs<|Qb<|(g4) ?_
   refine Zy (7 + (k + i)) (Uu 22) (Uz 5) rfl rfl (by omega) (by omega) rfl ?_
   refine z3h (i := 0) 3 (k + i) (Uu 5) rfl rfl rfl rfl (by first | rfl | omega) (by omega) (by omega) rfl ⟨[], trivial⟩ ?_
   refine (gj)<|(QN)<|Qn ?_
   refine (Qcd) (fun hc2=>?_) fun hc2=>?_
   ·have hfin : ¬ (YC r a (k : Int) && okh (k : Int) h 16) = true := by rw [zho hc1 (fun e => hc2 (by rw [e]; rfl))]; simp
    refine (gw) ?_
    first | rw [if_pos hfin] | rw [if_neg hfin]
    exact ⟨_, rfl, yt⟩
   ·have hcz : h (k + i) = 0 := by omega
    refine Qk<|(go) ?_
    refine QzL ⟨i + 1, rfl, rfl, rfl, by omega, fun j hj => by by_cases e : j = i; exact e ▸ hcz; exact hf0_1 j (by omega)⟩ ⟨rfl, rfl, rfl, trivial⟩ ⟨rfl, trivial⟩ ?_
    omega
  ·have hz0 : i = 16 - k := by omega
   have hfin : (YC r a (k : Int) && okh (k : Int) h 16) = true := by rw [hko, zil (by rw [← hz0]; exact hf0_1)]; rfl
   refine Qe<|(gw) ?_
   first | rw [if_pos hfin] | rw [if_neg hfin]
   exact ⟨_, rfl, yt⟩
theorem zj6 (r p : NN) (A : Nat) (h : NN) (n : Nat) (v : Value) (l : LN) (hv : Sh G v l) (hlb : By l) (hA : A < 2 ^ 130) (hr0 : r 0 < 18446744073709551616) (hr1 : r 1 < 18446744073709551616) (hR : k3 r < 2 ^ 124) (hn : n < 16) (hh : L8 16 h) (hz : ∀ j, n ≤ j → j < 16 → h j = 0) (hok : (YC r (wd A) n && okh n h 16) = true) (hlen : l.length + 16 ≤ 9223372036854775807) : Fp G 280 #[PV r p (wd A) h n, v] (.tuple #[PV r p (wd (Zf (k3 r) A (sS h n l) ((sS h n l).length / 16))) (fun i => ((sS h n l).drop (16 * ((sS h n l).length / 16))).getD i 0) (((sS h n l).drop (16 * ((sS h n l).length / 16))).length : Int), ii 0]) := by
 have hSl := z4k h n l
 have hSb := zko (n := n) (fun j hj => hh j (by omega)) hlb
 have hwA := xE A
 refine Qf2 Tryz.func280 ?_
 refine (g4)<|(Qh 0) fun r1=>(QH 1) fun r2=>(g3)<|Qs<|(gf) ?_
 refine (Ca (Vu r p (wd A) h n (hwA 0) (hwA 1) (hwA 2) hr0 hr1)) ?_
 refine (Ai (if_pos hok))<|(gj)<|(QN)<|(gp)<|(gc)<|(QC hv)<|(Qm)<|Qn<|Qb ?_
 refine QzK [(2, _), (4, _), (5, _), (15, _), (16, _)] [(1, _)] (fun kk E m => ∃ (i : Nat) (ac : Nat) (g : Nat → Nat) (c : Nat), kk = l.length - i ∧ E = [(17, ii i)] ∧ m = [(0, some ⟨r1, zr 24 [pI .u64 2 r, pI .u64 2 p, pI .u64 3 (wd ac), pI .u8 16 g, pV (.int .i64 ((c : Nat) : Int))], 292⟩)] ∧ (i ≤ l.length) ∧ (ac = Zf (k3 r) A (sS h n l) ((n + i) / 16)) ∧ (c = (n + i) % 16) ∧ (∀ j, j < 16 → g j = X6 (sS h n l) (n + i) j)) ⟨0, A, h, n, rfl, rfl, rfl, by omega, by rw [show (n + 0) / 16 = 0 by omega]; rfl, by omega, z7K hn hz⟩ ⟨rfl, rfl, rfl, rfl, rfl, rfl, trivial⟩ ⟨rfl, rfl, trivial⟩ ?_
 rintro kk E m ⟨i, ac, g, c, rfl, rfl, rfl, hf0_0, hf0_1, hf0_2, hf0_3⟩
 simp only [zB, zA]
 have hac : ac < 2 ^ 130 := by rw [hf0_1]; exact zjM hA _
 refine (gt) ?_
 refine (Qcd) (fun hc1=>?_) fun hc1=>?_
 ·have hc1 : i < l.length := by omega
  refine Qk<|Qs<|Qb<|(g4) ?_
  refine xf hv (Uu 22) (Uz 5) rfl rfl (by omega) rfl ?_
  refine (QS) ?_
  refine yc hv zo (Uu 5) rfl rfl (z9u hc1) rfl ?_
  refine (g3)<|(g4)<|(Qf 23)<|(QV 4 0)<|(Qm)<|(Qf 7)<|(QB (7 + c)) ?_
  refine zeG (i := 0) 3 (c) (Uz 5) rfl rfl rfl rfl (by first | rfl | omega) (by omega) (by omega) (.inl rfl) ?_
  refine (gg)<|(Qf 23)<|(QV 4 0)<|(Q2 1)<|(Qf 23)<|(QtV 0 4)<|(gg)<|(Qf 23)<|(QV 4 0)<|(Qc)<|Qn ?_
  refine (Qcd) (fun hc2=>?_) fun hc2=>?_
  ·have hc16 : c + 1 = 16 := by omega
   refine Qp<|(QD 0) ?_
   refine (Av (PV r p (wd ac) (upd g c l[i]) ((c + 1 : Nat) : Int))) ?_
   refine zC rfl (Un 293) (z6l r p ac (upd g c l[i]) (c + 1) hr0 hr1 hR hac (by omega) (fun j hj => by unfold upd; split; exact hlb _ (List.getElem_mem hc1); rw [hf0_3 j hj]; exact zhR hSb _ _) (fun j h1 h2 => absurd h2 (by omega))) rfl rfl ?_
   refine (QW 0)<|Qn<|(go) ?_
   refine QzL ⟨i + 1, _, _, _, rfl, rfl, rfl, by omega, (by first | exact z2Z (T := n + i) (by omega) hf0_1 | exact z2E (T := n + i) (by omega) hf0_1 (by rw [hc16, hf0_2]; exact z2z (T := n + i) (by omega) (by omega) (z9H hc1) hf0_3)), by omega, (by first | exact z2X (T := n + i) (by omega) | (rw [hf0_2]; exact z2V (T := n + i) (by omega) (z9H hc1) hf0_3))⟩ ⟨rfl, rfl, rfl, rfl, rfl, rfl, trivial⟩ ⟨rfl, rfl, trivial⟩ ?_
   omega
  ·refine Qk<|Qp<|(Q2 1)<|(Qm)<|Qn ?_
   refine QzL ⟨i + 1, _, _, _, rfl, rfl, rfl, by omega, (by first | exact z2Z (T := n + i) (by omega) hf0_1 | exact z2E (T := n + i) (by omega) hf0_1 (by rw [hc16, hf0_2]; exact z2z (T := n + i) (by omega) (by omega) (z9H hc1) hf0_3)), by omega, (by first | exact z2X (T := n + i) (by omega) | (rw [hf0_2]; exact z2V (T := n + i) (by omega) (z9H hc1) hf0_3))⟩ ⟨rfl, rfl, rfl, rfl, rfl, rfl, trivial⟩ ⟨rfl, rfl, trivial⟩ ?_
   omega
 ·have hz0 : i = l.length := by omega
  refine Qe<|(gf) ?_
  refine zi (Eq.trans (show _ = PV r p (wd ac) g ((c : Nat) : Int) from rfl) (show _ = PV r p (wd (Zf (k3 r) A (sS h n l) ((sS h n l).length / 16))) (fun i => ((sS h n l).drop (16 * ((sS h n l).length / 16))).getD i 0) (((sS h n l).drop (16 * ((sS h n l).length / 16))).length : Int) from zd4 (fun _ _ => rfl) (fun _ _ => rfl) (fun _ _ => by rw [hf0_1, hSl, hz0]) (zgr (by rw [hSl, ← hz0]; exact hf0_3)) (by rw [List.length_drop]; omega))) ?_
  refine (QW 1)<|(gh) ?_
  exact ⟨_, _, rfl, yb 1, yt⟩
theorem zcq (r p : NN) (A : Nat) (h : NN) (n : Nat) (hr0 : r 0 < 18446744073709551616) (hr1 : r 1 < 18446744073709551616) (hp0 : p 0 < 18446744073709551616) (hp1 : p 1 < 18446744073709551616) (hn : n = 0) (hok : (YC r (wd A) n && okh n h 16) = true) : Fp G 282 #[PV r p (wd A) h n] (.tuple #[.agg (arr .u8 16 (tgn (k3 (wd A)) (k3 p))), ii 0]) := by
 have hwA := xE A
 refine Qf2 Tryz.func282 ?_
 refine (g4)<|(Qh 0) fun r1=>(QH 1) fun r2=>(g3)<|Qs<|(gf) ?_
 refine (Ca (Vu r p (wd A) h n (hwA 0) (hwA 1) (hwA 2) hr0 hr1)) ?_
 refine (Ai (if_pos hok))<|(gj)<|(QN)<|(gp)<|(gu)<|(Qf 23)<|(QV 4 0)<|(QG)<|Qn ?_
 refine ze rfl ?_ ?_
 ·intro hc1
  exact absurd (of_decide_eq_true hc1) (by omega)
 ·intro hc1
  refine Qk<|(gf) ?_
  refine (Ca (z95 r p A h n hp0 hp1))<|(Qt 1)<|(gh) ?_
  exact ⟨_, _, rfl, ya 1, yt⟩
theorem zcr (r p : NN) (A : Nat) (h : NN) (n : Nat) (hr0 : r 0 < 18446744073709551616) (hr1 : r 1 < 18446744073709551616) (hp0 : p 0 < 18446744073709551616) (hp1 : p 1 < 18446744073709551616) (hR : k3 r < 2 ^ 124) (hA : A < 2 ^ 130) (hh : L8 16 h) (hz : ∀ j, n ≤ j → j < 16 → h j = 0) (hn : 0 < n) (hn2 : n < 16) (hok : (YC r (wd A) n && okh n h 16) = true) : Fp G 282 #[PV r p (wd A) h n] (.tuple #[.agg (arr .u8 16 (tgn (k3 (wd (pst (k3 r) A ((List.range n).map h)))) (k3 p))), ii 0]) := by
 have hwA := xE A
 refine Qf2 Tryz.func282 ?_
 refine (g4)<|(Qh 0) fun r1=>(QH 1) fun r2=>(g3)<|Qs<|(gf) ?_
 refine (Ca (Vu r p (wd A) h n (hwA 0) (hwA 1) (hwA 2) hr0 hr1)) ?_
 refine (Ai (if_pos hok))<|(gj)<|(QN)<|(gp)<|(gu)<|(Qf 23)<|(QV 4 0)<|(QG)<|Qn ?_
 refine ze rfl ?_ ?_
 ·intro hc1
  refine Qp<|(QD 0) ?_
  refine (Ca (z6l r p A h n hr0 hr1 hR hA (by omega) hh hz))<|(QW 0)<|Qn<|(gf) ?_
  refine (Ca (z95 r p (pst (k3 r) A ((List.range n).map h)) (fun _ => 0) ((0 : Nat) : Int) hp0 hp1))<|(Qt 1)<|(gh) ?_
  exact ⟨_, _, rfl, ya 1, yt⟩
 ·intro hc1
  exact absurd (of_decide_eq_false hc1) (by omega)
theorem z7R {G : Mem} (f : NN) (hf : L8 32 f) : Fp G 281 #[.agg (arr .u8 32 f)] (stP f []) := by
 rw [← zjA f]; exact zco f hf
theorem z1Y (m : LN) : ∀ j, (xa m).length ≤ j → j < 16 → Zi m j = 0 := fun j h1 _ => by
 unfold Zi
 rw [List.getD_eq_getElem?_getD, List.getElem?_eq_none h1]; rfl
theorem z79 {G : Mem} (f : NN) (m : LN) (v : Value) (l : LN) (hf : L8 32 f) (hm : By m) (hv : Sh G v l) (hlb : By l) (hlen : l.length + 16 ≤ 9223372036854775807) :
  Fn Tryz.prog G 280 #[stP f m, v] (.tuple #[stP f (m ++ l), ii 0]) := by
 have hb := zeP hf
 have h := zj6 (G := G) (w8 (bL f)) (fun j => w8 (bL f) (j + 2)) (Wk (k3 (w8 (bL f))) m) (Zi m) (xa m).length v l hv hlb (Nat.lt_trans (z4r _ _) z6k) (Zt hb 0) (Zt hb 1) (z5K (Zt hb 0) (Zt hb 1) (Xf hf)) (by rw [Xg]; omega) (fun j _ => z6i hm j) (z1Y m) (z5V (Xf hf) _ m) hlen
 rw [z9v, zeR, zbA] at h
 exact h
theorem z8j {G : Mem} (f : NN) (m : LN) (hf : L8 32 f) (hm : By m) : Fp G 282 #[stP f m] (.tuple #[.agg (arr .u8 16 (ptg f m)), ii 0]) := by
 have hb := zeP hf
 have hok := z5V (Xf hf) (k3 (w8 (bL f))) m
 by_cases h0 : (xa m).length = 0
 ·have h := zcq (G := G) (w8 (bL f)) (fun j => w8 (bL f) (j + 2)) (Wk (k3 (w8 (bL f))) m) (Zi m) (xa m).length (Zt hb 0) (Zt hb 1) (Zt hb 2) (Zt hb 3) h0 hok
  unfold stP cP
  rw [show Wk (k3 (w8 (bL f))) m = zm3 (k3 (w8 (bL f))) m from (if_pos h0).symm] at h ⊢
  exact h
 ·have h := zcr (G := G) (w8 (bL f)) (fun j => w8 (bL f) (j + 2)) (Wk (k3 (w8 (bL f))) m) (Zi m) (xa m).length (Zt hb 0) (Zt hb 1) (Zt hb 2) (Zt hb 3) (z5K (Zt hb 0) (Zt hb 1) (Xf hf)) (Nat.lt_trans (z4r _ _) z6k) (fun j _ => z6i hm j) (z1Y m) (by omega) (by rw [Xg]; omega) hok
  rw [zaW, show pst (k3 (w8 (bL f))) (Wk (k3 (w8 (bL f))) m) (xa m) = zm3 (k3 (w8 (bL f))) m from (if_neg h0).symm] at h
  exact h
theorem zit (f : NN) (v : Value) (l : LN) (hf : L8 32 f) (hb : By l) (hl : l.length ≤ 140737488351232) (hv : Sh G v l) : Fp G 267 #[.agg (arr .u8 32 f), v] (.agg (arr .u8 16 (ptg f l))) := by
 have hl2 : l.length + 16 ≤ 9223372036854775807 := by omega
 refine Qf1 Tryz.func267 ?_
 refine (g4)<|(Qh 0) fun r1=>(QH 1) fun r2=>(gg)<|(Qd 0) ?_
 refine (Ca (z7R f hf))<|(Qm) ?_
 refine (Ca (z79 f [] v l hf (by simp) hv hb hl2)) ?_
 refine (Av (Value.tuple #[stP f l, ii 0]))<|(ge)<|(QH 2) fun r3=>(QW 2)<|(g3)<|(g4)<|(QD 2) ?_
 refine (Ca (z8j f l hf hb))<|(ge)<|(QH 3) fun r4=>(Qt 3)<|(g3)<|(g4)<|(Qd 3)<|(Qt 1)<|Qn<|Qr ?_
 exact ⟨_, rfl, ya 1⟩
theorem z7N (va vt : Value) (ad tx : LN) (hva : Sh G va ad) (hvt : Sh G vt tx) (hal : ad.length ≤ 10000) (htl : tx.length ≤ 10000) : Fq G [] 268 #[va, vt] (R1 5 (ZP ad tx)) := by
 have hml := z2L ad tx
 have hse := zbI ad tx
 refine QfN Tryz.func268 ?_
 refine (gb)<|Qs<|QR ⟨[], 4, [], none, none⟩<|(ga)<|(QC hva) ?_
 refine zK 0 (fun v => v) rfl rfl (Un 283) zo (z6C ad.length) (by simp only [maxLen]; omega) (by rw [List.length_map, Y3, Nat.mul_one]) rfl rfl fun v1_1 oz1_1 ho1_1 => ?_
 refine (ga)<|(QC hvt) ?_
 refine zK 1 (fun v => v) rfl rfl (Un 283) zo (z6C tx.length) (by simp only [maxLen]; omega) (by rw [List.length_map, Y3, Nat.mul_one]) rfl rfl fun v1_2 oz1_2 ho1_2 => ?_
 refine (Qm)<|(QC hva) ?_
 refine zK 2 (fun v => v) rfl rfl (Un 284) zo (z2y ad.length) (by simp only [maxLen]; omega) (by rw [List.length_map, xk]) rfl rfl fun v1_3 oz1_3 ho1_3 => ?_
 refine (Qm)<|(QC hvt) ?_
 refine zK 3 (fun v => v) rfl rfl (Un 284) zo (z2y tx.length) (by simp only [maxLen]; omega) (by rw [List.length_map, xk]) rfl rfl fun v1_4 oz1_4 ho1_4 => ?_
 refine zu 4 [va, v1_1, vt, v1_2, v1_3, v1_4].toArray (Uu 197 rfl) (Uz 22 rfl) (Ub 22 rfl) (by decide) (by decide) rfl (wX [va, v1_1, vt, v1_2, v1_3, v1_4] 0 _ (by intro v hv; simp only [List.mem_cons, List.not_mem_nil, or_false] at hv; rcases hv with rfl | rfl | rfl | rfl | rfl | rfl; exact xA hva; exact xA ho1_1.shows; exact xA hvt; exact xA ho1_2.shows; exact xA ho1_3.shows; exact xA ho1_4.shows) (by simp)) rfl fun r5 => ?_
 refine zK 5 (fun v => v) rfl rfl (Un 91) (zh zo (zh (xF 0 rfl ⟨[], trivial⟩) (zh (xF 1 rfl ⟨[], trivial⟩) (zh (xF 2 rfl ⟨[], trivial⟩) (zh (xF 3 rfl ⟨[], trivial⟩) (zY 4 rfl ⟨[], trivial⟩)))))) (z3i (G := (G ++ (oz1_1.toList ++ (oz1_2.toList ++ (oz1_3.toList ++ (oz1_4.toList ++ [(⟨r5, [va, v1_1, vt, v1_2, v1_3, v1_4].toArray, 22⟩ : Blk)])))))) (.slice (some ⟨r5, 0, none⟩) 6 6) [va, v1_1, vt, v1_2, v1_3, v1_4] [ad, zrs ((16 - ad.length % 16) % 16), tx, zrs ((16 - tx.length % 16) % 16), vG ad.length 8, vG tx.length 8] (Shows.mono (yX (r := r5) (len := 6) (z := 1) [va, v1_1, vt, v1_2, v1_3, v1_4].toArray 22 rfl) (fun x h => (List.mem_append_right _ (List.mem_append_right _ (List.mem_append_right _ (List.mem_append_right _ (List.mem_append_right _ h))))))) (yL (hva.mono (fun x h => (List.mem_append_left _ h))) (yL (Shows.mono (OwnS.shows (zw ho1_1 (Y3 _).symm rfl)) (fun x h => (List.mem_append_right _ (List.mem_append_left _ h)))) (yL (hvt.mono (fun x h => (List.mem_append_left _ h))) (yL (Shows.mono (OwnS.shows (zw ho1_2 (Y3 _).symm rfl)) (fun x h => (List.mem_append_right _ (List.mem_append_right _ (List.mem_append_left _ h))))) (yL (Shows.mono (OwnS.shows (zw ho1_3 (xk ad.length 8).symm rfl)) (fun x h => (List.mem_append_right _ (List.mem_append_right _ (List.mem_append_right _ (List.mem_append_left _ h)))))) (yL (Shows.mono (OwnS.shows (zw ho1_4 (xk tx.length 8).symm rfl)) (fun x h => (List.mem_append_right _ (List.mem_append_right _ (List.mem_append_right _ (List.mem_append_right _ (List.mem_append_left _ h))))))) (XM _))))))) (Nat.le_of_ble_eq_true rfl) (by rw [hse]; omega)) (by rw [hse]; simp only [maxLen]; omega) (by rw [List.length_map, Nat.mul_one]) rfl rfl fun v1_5 oz1_5 ho1_5 => ?_
 refine (gh) ?_
 exact ⟨_, _, _, 5, rfl, yt, (zw ho1_5 (by rw [hse]) (by rw [hse])), rfl⟩
theorem z52 (f g : NN) : Fp G 250 #[.agg (arr .u8 16 f), .agg (arr .u8 16 g)] (.bool (decide (agr f g 16 = 0))) := by
 refine Qf1 Tryz.func250 ?_
 refine (g4)<|(Qh 0) fun r1=>(Qh 1) fun r2=>(g3)<|(gb)<|(gc)<|Qn<|Qb ?_
 refine QzK [(2, _), (3, _), (4, _)] [(0, _), (1, _)] (fun kk E m => ∃ (i : Nat), kk = 16 - i ∧ E = [(5, by8 (agr f g i)), (7, ii i)] ∧ m = [] ∧ (i ≤ 16)) ⟨0, rfl, rfl, rfl, by omega⟩ ⟨rfl, rfl, rfl, rfl, rfl, trivial⟩ ⟨rfl, rfl, trivial⟩ ?_
 rintro kk E m ⟨i, rfl, rfl, rfl, hf0_0⟩
 simp only [zB, zA]
 refine (gt) ?_
 refine (Qcd) (fun hc0=>?_) fun hc0=>?_
 ·have hc0 : i < 16 := by omega
  refine Qk<|Qs<|Qb<|(g5)<|(g3)<|(Qg)<|(ga)<|(gq)<|(Qm)<|(Qi)<|(Q1 1) ?_
  refine z05 rfl rfl rfl  ?_
  refine z7M rfl rfl rfl  ?_
  refine (g3)<|(go) ?_
  refine QzL ⟨i + 1, rfl, rfl, rfl, by omega⟩ ⟨rfl, rfl, rfl, rfl, rfl, trivial⟩ ⟨rfl, rfl, trivial⟩ ?_
  omega
 ·have hz0 : i = 16 := by omega
  subst hz0
  refine Qe<|(g5)<|(Qc) ?_
  refine zi (show _ = Value.bool (decide (agr f g 16 = 0)) from congrArg Value.bool (decide_eq_decide.2 (by omega))) ?_
  refine (gh) ?_
  exact ⟨_, rfl, yt⟩
theorem z1P (k nn : NN) (v : Value) (l : LN) (hk : L8 32 k) (hn : L8 12 nn) (hv : Sh G v l) (hl : l.length ≤ 1600) : Fq G [] 244 #[.agg (arr .u8 32 k), .agg (arr .u8 12 nn), v] (fun v l1 nw => l1 = [] ∧ ∃ v', v = v' ∧ OwnS 5 1 v' l.length ((vQ k 1 nn l 0).map by8) nw) := by
 refine QfN Tryz.func244 ?_
 refine (g4)<|(Qh 0) fun r1=>(Qh 1) fun r2=>(g3)<|Qs<|QR ⟨[], 4, [], none, none⟩<|(Qd 0)<|(Qd 1)<|(Qm) ?_
 refine zK 2 (fun v => .tuple #[v, ii 0]) rfl rfl (Un 265) zo (zaF k 1 nn v l hv hk hn (by decide) (by omega) (by omega)) (by simp only [maxLen]; omega) (by rw [List.length_map, xu, Nat.mul_one]) rfl rfl fun v1_1 oz1_1 ho1_1 => ?_
 refine (ge)<|(g7)<|(g5)<|(gh) ?_
 exact ⟨_, _, _, 2, rfl, yt, ho1_1, rfl⟩
theorem Vh (k nn : NN) (va vt : Value) (ad tx : LN) (hva : Sh G va ad) (hvt : Sh G vt tx) (hk : L8 32 k) (hn : L8 12 nn) (hab : By ad) (htb : By tx) (hal : ad.length ≤ 10000) (htl : tx.length ≤ 10000) : Fp G 245 #[.agg (arr .u8 32 k), .agg (arr .u8 12 nn), va, vt] (.agg (arr .u8 16 (ptg (z6z k nn) (ZP ad tx)))) := by
 have hml := z2L ad tx
 refine Qf1 Tryz.func245 ?_
 refine (g4)<|(Qh 0) fun r1=>(Qh 1) fun r2=>(QH 2) fun r3=>(gg)<|(Qd 0)<|(Qd 1) ?_
 refine (Ca (z5o k 0 nn hk hn (by decide)))<|(QH 3) fun r4=>(Qt 3)<|Qn<|Qs<|(Qq ⟨[], 4, [], none, none⟩) ?_
 refine Z4 0 32 (Uu 146) (Uz 5) rfl rfl rfl rfl ⟨_, rfl⟩ (by omega) (by omega) (by omega) rfl ?_
 refine z3I (Uu 30) rfl (by omega) rfl ?_
 refine (Qls 3) ?_
 refine zi (congrArg Value.agg (zz (fun j _ => show z13 k 0 nn (0 + j) = z6z k nn j by rw [Nat.zero_add]; rfl))) ?_
 refine (ga) ?_
 refine zK 4 (fun v => v) rfl rfl (Un 268) zo (z7N va vt ad tx hva hvt hal htl) (by simp only [maxLen]; omega) (by rw [List.length_map, Nat.mul_one]) rfl rfl fun v1_1 oz1_1 ho1_1 => ?_
 refine VX oz1_1.toList rfl rfl (Un 267) (ze7 (i := 4) rfl) (zit (z6z k nn) _ (ZP ad tx) (zjj k nn) (zea hab htb) (by omega) ho1_1.shows) rfl rfl rfl ?_
 refine (Qt 2)<|Qn<|Qr ?_
 exact ⟨_, rfl, ya 2⟩
theorem z7r (k nn : NN) (va vt : Value) (ad tx : LN) (hva : Sh G va ad) (hvt : Sh G vt tx) (h : ad.length ≤ 200) (h2 : 800 < tx.length) : Fp G 217 #[.agg (arr .u8 32 k), .agg (arr .u8 12 nn), va, vt] (.tuple #[zV, ii 1]) := by
 refine Qf2 Tryz.func217 ?_
 refine (g4)<|(Qh 0) fun r1=>(Qh 1) fun r2=>(gv)<|(QC hva)<|(QG)<|(Qaf)<|(gk)<|(QC hvt)<|(Qy)<|(QG)<|(Qat)<|(QF)<|Qn<|(Qct)<|(g4)<|(gr) ?_
 exact ⟨_, _, rfl, yt, yt⟩
theorem zgc (k nn : NN) (va vt : Value) (ad tx : LN) (hk : L8 32 k) (hn : L8 12 nn) (hva : Sh G va ad) (hvt : Sh G vt tx) (hab : By ad) (h : ad.length ≤ 200) (h2 : tx.length ≤ 800) : Fq G [] 217 #[.agg (arr .u8 32 k), .agg (arr .u8 12 nn), va, vt] (R2 5 (vJ k nn ad tx)) := by
 have hsl := xu k 1 nn tx 0
 have hse := xB k nn ad tx
 refine QfM Tryz.func217 ?_
 refine (g4)<|(Qh 0) fun r1=>(Qh 1) fun r2=>(gv)<|(QC hva)<|(QG)<|(Qaf)<|(gk)<|(QC hvt)<|(Qy)<|(QG)<|(Qaf)<|(QF)<|(gp)<|Qs<|QR ⟨[], 4, [], none, none⟩<|(Qd 0)<|(Qd 1)<|(Qm) ?_
 refine zK 2 (fun v => v) rfl rfl (Un 244) zo (z1P k nn vt tx hk hn hvt (by omega)) (by simp only [maxLen]; omega) (by rw [List.length_map, xu, Nat.mul_one, Nat.sub_zero]) rfl rfl fun v2_1 oz2_1 ho2_1 => ?_
 refine (g3)<|(g4)<|(Qd 0)<|(Qd 1)<|(ga) ?_
 refine zD rfl rfl (Un 245) (zh zo (xF 2 rfl ⟨[], trivial⟩)) (Vh (G := G ++ oz2_1.toList) k nn va _ ad (vQ k 1 nn tx 0) (hva.mono (fun x h => List.mem_append_left _ h)) ((yM ho2_1).mono (fun x h => List.mem_append_right _ h)) hk hn hab (z3H _ _ _ _ _) (by omega) (by omega)) rfl rfl ?_
 refine (QH 3) fun r4=>(Qt 3)<|Qn<|(g5)<|(Qsa 0 16) ?_
 refine x9 2 ho2_1 (WK r4 16 (ptg (z6z k nn) (ZP ad (vQ k 1 nn tx 0))) 262 0 16 16 (by decide) (by decide)) rfl (zY 3 rfl ⟨[], trivial⟩) (Uu 22) (Uz 5) (Uy 5) (Ub 5) (by rfl) rfl rfl Yh (by simp only [maxLen]; simp; omega) (by simp; omega) rfl fun v2_2 oz2_2 ho2_2 => ?_
 refine (gr) ?_
 exact ⟨_, _, _, _, 2, rfl, yt, yt, (zw ho2_2 (by rw [hse]; simp) (z8d k nn ad tx)), rfl⟩
theorem z73 (k nn : NN) (va vt : Value) (ad tx : LN) (hva : Sh G va ad) (hvt : Sh G vt tx) (h : ad.length ≤ 200) (h2 : 816 < tx.length) : Fp G 222 #[.agg (arr .u8 32 k), .agg (arr .u8 12 nn), va, vt] (.tuple #[zV, ii 1]) := by
 refine Qf2 Tryz.func222 ?_
 refine (g4)<|(Qh 0) fun r1=>(Qh 1) fun r2=>(gv)<|(QC hva)<|(QG)<|(Qaf)<|(gk)<|(QC hvt)<|(Qy)<|(QG)<|(Qat)<|(QF)<|Qn<|(Qct)<|(g4)<|(gr) ?_
 exact ⟨_, _, rfl, yt, yt⟩
theorem z6K (k nn : NN) (va vt : Value) (ad tx : LN) (hva : Sh G va ad) (hvt : Sh G vt tx) (h : ad.length ≤ 200) (h2 : tx.length < 16) : Fp G 222 #[.agg (arr .u8 32 k), .agg (arr .u8 12 nn), va, vt] (.tuple #[zV, ii 4]) := by
 refine Qf2 Tryz.func222 ?_
 refine (g4)<|(Qh 0) fun r1=>(Qh 1) fun r2=>(gv)<|(QC hva)<|(QG)<|(Qaf)<|(gk)<|(QC hvt)<|(Qy)<|(QG)<|(Qaf)<|(QF)<|(gp)<|(gc)<|(QC hvt)<|(Ql)<|(Qat)<|Qn<|(Qct)<|(g4)<|(gr) ?_
 exact ⟨_, _, rfl, yt, yt⟩
theorem z7I (k nn : NN) (va vt : Value) (ad tx : LN) (hk : L8 32 k) (hn : L8 12 nn) (hva : Sh G va ad) (hvt : Sh G vt tx) (hab : By ad) (htb : By tx) (h : ad.length ≤ 200) (h2 : 16 ≤ tx.length) (h3 : tx.length ≤ 816) (ho : ¬ XO k nn ad tx) : Fp G 222 #[.agg (arr .u8 32 k), .agg (arr .u8 12 nn), va, vt] (.tuple #[zV, ii 10]) := by
 have hv1 : Shows G 1 (yU 1 vt 0 (tx.length - 16)) (tx.take (tx.length - 16)).length ((tx.take (tx.length - 16)).map by8) := hvt.cut (by omega) (by omega) (by simp)
 have hv2 : Shows G 1 (yU 1 vt (tx.length - 16) tx.length) (tx.drop (tx.length - 16)).length ((tx.drop (tx.length - 16)).map by8) := hvt.cut (by omega) (by omega) (by rw [List.take_of_length_le (by simp)])
 refine Qf2 Tryz.func222 ?_
 refine (g4)<|(Qh 0) fun r1=>(Qh 1) fun r2=>(gv)<|(QC hva)<|(QG)<|(Qaf)<|(gk)<|(QC hvt)<|(Qy)<|(QG)<|(Qaf)<|(QF)<|(gp)<|(gc)<|(QC hvt)<|(Ql)<|(Qaf)<|(gp)<|(g5)<|(QC hvt) ?_
 refine yy (q := 16) rfl rfl rfl (by omega) (by omega) ?_
 refine (g3)<|Qs<|(gy)<|(ga) ?_
 refine xb (tx.length - 16) tx.length hvt (Uu 22) (Uz 5) rfl rfl rfl ⟨_, rfl⟩ rfl (by omega) (by omega) rfl ?_
 refine Wr hv2 (Uu 262) rfl (by decide) (by rw [List.length_drop]; omega) rfl ?_
 refine YN hv2 zo (Uu 262) rfl (Uz 262) rfl (by decide) (by simp; omega) rfl rfl ?_
 refine zi (z1q (by rw [List.length_drop]; omega)) ?_
 refine (Qd 0)<|(Qd 1)<|(ga)<|(Qm) ?_
 refine xb 0 (tx.length - 16) hvt (Uu 22) (Uz 5) rfl rfl rfl rfl ⟨_, rfl⟩ (by omega) (by omega) rfl ?_
 refine zC rfl (Un 245) (Vh k nn va _ ad (tx.take (tx.length - 16)) hva hv1 hk hn hab (fun x hx => htb x (List.mem_of_mem_take hx)) (by omega) (by simp; omega)) rfl rfl ?_
 refine (Ca (z52 _ _)) ?_
 refine zi (congrArg Value.bool (decide_eq_false (fun e => ho ((z3o k nn h2 htb).1 e)))) ?_
 refine (Q0)<|Qn<|(Qct)<|(g4)<|(gr) ?_
 exact ⟨_, _, rfl, yt, yt⟩
theorem zdr (k nn : NN) (va vt : Value) (ad tx : LN) (hk : L8 32 k) (hn : L8 12 nn) (hva : Sh G va ad) (hvt : Sh G vt tx) (hab : By ad) (htb : By tx) (h : ad.length ≤ 200) (h2 : 16 ≤ tx.length) (h3 : tx.length ≤ 816) (ho : XO k nn ad tx) : Fq G [] 222 #[.agg (arr .u8 32 k), .agg (arr .u8 12 nn), va, vt] (R2 5 (XD k nn tx)) := by
 have hv1 : Shows G 1 (yU 1 vt 0 (tx.length - 16)) (tx.take (tx.length - 16)).length ((tx.take (tx.length - 16)).map by8) := hvt.cut (by omega) (by omega) (by simp)
 have hv2 : Shows G 1 (yU 1 vt (tx.length - 16) tx.length) (tx.drop (tx.length - 16)).length ((tx.drop (tx.length - 16)).map by8) := hvt.cut (by omega) (by omega) (by rw [List.take_of_length_le (by simp)])
 have htl : (tx.take (tx.length - 16)).length = tx.length - 16 := by simp
 have hol := vU k nn tx
 refine QfM Tryz.func222 ?_
 refine (g4)<|(Qh 0) fun r1=>(Qh 1) fun r2=>(gv)<|(QC hva)<|(QG)<|(Qaf)<|(gk)<|(QC hvt)<|(Qy)<|(QG)<|(Qaf)<|(QF)<|(gp)<|(gc)<|(QC hvt)<|(Ql)<|(Qaf)<|(gp)<|(g5)<|(QC hvt) ?_
 refine yy (q := 16) rfl rfl rfl (by omega) (by omega) ?_
 refine (g3)<|Qs<|(gy)<|(ga) ?_
 refine xb (tx.length - 16) tx.length hvt (Uu 22) (Uz 5) rfl rfl rfl ⟨_, rfl⟩ rfl (by omega) (by omega) rfl ?_
 refine Wr hv2 (Uu 262) rfl (by decide) (by rw [List.length_drop]; omega) rfl ?_
 refine YN hv2 zo (Uu 262) rfl (Uz 262) rfl (by decide) (by simp; omega) rfl rfl ?_
 refine zi (z1q (by rw [List.length_drop]; omega)) ?_
 refine (Qd 0)<|(Qd 1)<|(ga)<|(Qm) ?_
 refine xb 0 (tx.length - 16) hvt (Uu 22) (Uz 5) rfl rfl rfl rfl ⟨_, rfl⟩ (by omega) (by omega) rfl ?_
 refine zC rfl (Un 245) (Vh k nn va _ ad (tx.take (tx.length - 16)) hva hv1 hk hn hab (fun x hx => htb x (List.mem_of_mem_take hx)) (by omega) (by simp; omega)) rfl rfl ?_
 refine (Ca (z52 _ _)) ?_
 refine zi (congrArg Value.bool (decide_eq_true ((z3o k nn h2 htb).2 ho))) ?_
 refine (Q0)<|(gp)<|Qs<|(Qq ⟨[], 4, [], none, none⟩)<|(Qd 0)<|(Qd 1)<|(ga) ?_
 refine xb 0 (tx.length - 16) hvt (Uu 22) (Uz 5) rfl rfl rfl rfl ⟨_, rfl⟩ (by omega) (by omega) rfl ?_
 refine zK 2 (fun v => v) rfl rfl (Un 244) zo (z1P k nn _ (tx.take (tx.length - 16)) hk hn hv1 (by omega)) (by simp only [maxLen]; omega) (by rw [List.length_map, xu, Nat.mul_one, Nat.sub_zero]) rfl rfl fun v4_1 oz4_1 ho4_1 => ?_
 refine (gr) ?_
 exact ⟨_, _, _, _, 2, rfl, yt, yt, (zw ho4_1 (by rw [htl, hol]) rfl), rfl⟩
theorem WB (f : NN) : Fp G 81 #[.agg (arr .u8 32 f)] (CV true f 0) := by
 refine Qf1 Tryz.func81 ?_
 refine (g4)<|(Qh 0) fun r1=>(QH 1) fun r2=>(gg)<|(Qd 0) ?_
 refine yn (zr 34 [pV (.bool true), pI .u8 32 f, pV (u 0)]) (Ub 33 rfl) (Uu 33 rfl) WH rfl (by kernel_rfl) rfl ?_
 refine (QW 1)<|Qn<|Qr ?_
 exact ⟨_, rfl, yb 1⟩
theorem vo (has : Bool) (k : NN) (n : Nat) : Fp G 241 #[CV has k n] (ii (if okC has k n = true then 0 else 9)) := by
 refine Qf1 Tryz.func241 ?_
 refine (g4)<|(Qh 0) fun r1=>(g3)<|Qs<|Qs ?_
 rcases zlz has k n with ⟨hk0, hko⟩ | ⟨hk0, hk1, hko⟩ | ⟨hk0, hk1, hk2, hko⟩ | ⟨hk0, hk1, hk2, hko⟩
 ·skip
  refine Qp<|(Qf 0)<|(QV 0 0)<|(Q0) ?_
  refine zi (congrArg (fun z => Value.bool (!z)) hk0) ?_
  refine (Qm)<|(gz)<|(QF)<|(gp)<|(gw) ?_
  rw [hko]
  exact ⟨_, rfl, yt⟩
 ·skip
  refine Qp<|(Qf 0)<|(QV 0 0)<|(Q0) ?_
  refine zi (congrArg (fun z => Value.bool (!z)) hk0) ?_
  refine (g8)<|(QD 0)<|(Qy) ?_
  refine yn (zr 34 [pV (.bool false), pI .u8 32 (fun _ => 0), pV (.int .u64 0)]) (Ub 33 rfl) (Uu 33 rfl) WH rfl (by kernel_rfl) rfl ?_
  refine (Qy) ?_
  refine zd0 zgh zdI rfl rfl rfl ?_
  refine (Ab (((congrArg (fun z => !([(z == false), y4 32 k (fun _ => 0), ((n : Int) == 0)].all id)) hk0).trans (z82 k n)).trans (congrArg (fun z => !z) (hk0 ▸ hko))))<|(QT)<|Qn<|(Qct)<|(gw) ?_
  rw [hko]
  exact ⟨_, rfl, yt⟩
 ·skip
  refine Qp<|(Qf 0)<|(QV 0 0)<|(Q0) ?_
  refine zi (congrArg (fun z => Value.bool (!z)) hk0) ?_
  refine (g8)<|(QD 0)<|(Qy) ?_
  refine yn (zr 34 [pV (.bool false), pI .u8 32 (fun _ => 0), pV (.int .u64 0)]) (Ub 33 rfl) (Uu 33 rfl) WH rfl (by kernel_rfl) rfl ?_
  refine (Qy) ?_
  refine zd0 zgh zdI rfl rfl rfl ?_
  refine (Ab (((congrArg (fun z => !([(z == false), y4 32 k (fun _ => 0), ((n : Int) == 0)].all id)) hk0).trans (z82 k n)).trans (congrArg (fun z => !z) (hk0 ▸ hko))))<|(QT)<|Qn<|(Qct)<|(gw) ?_
  rw [hko]
  exact ⟨_, rfl, yt⟩
 ·skip
  refine Qp<|(Qf 0)<|(QV 0 0)<|(Q0) ?_
  refine zi (congrArg (fun z => Value.bool (!z)) hk0) ?_
  refine (g8)<|(QD 0)<|(Qy) ?_
  refine yn (zr 34 [pV (.bool false), pI .u8 32 (fun _ => 0), pV (.int .u64 0)]) (Ub 33 rfl) (Uu 33 rfl) WH rfl (by kernel_rfl) rfl ?_
  refine (Qy) ?_
  refine zd0 zgh zdI rfl rfl rfl ?_
  refine (Ab (((congrArg (fun z => !([(z == false), y4 32 k (fun _ => 0), ((n : Int) == 0)].all id)) hk0).trans (z82 k n)).trans (congrArg (fun z => !z) (hk0 ▸ hko))))<|(QT)<|(gp)<|(gw) ?_
  rw [hko]
  exact ⟨_, rfl, yt⟩
theorem Xd (n : Nat) : Fp G 243 #[u n] (.agg (arr .u8 12 (xT n))) := by
 refine Qf1 Tryz.func243 ?_
 refine (g4)<|(QH 0) fun r1=>(gg)<|(QH 1) fun r2=>Qn<|(gc)<|Qn<|Qb ?_
 refine QzK [(0, _), (2, _), (3, _)] [(0, _)] (fun kk E m => ∃ (i : Nat) (s : Nat → Nat), kk = 8 - i ∧ E = [(5, ii i)] ∧ m = [(1, some ⟨r2, arr .u8 12 s, 178⟩)] ∧ (i ≤ 8) ∧ (∀ t, t < 12 → s t = if t < 4 + i then xT n t else 0)) ⟨0, fun _ => 0, rfl, rfl, rfl, by omega, (zaM n)⟩ ⟨rfl, rfl, rfl, rfl, trivial⟩ ⟨rfl, rfl, trivial⟩ ?_
 rintro kk E m ⟨i, s, rfl, rfl, rfl, hf0_0, hf0_1⟩
 simp only [zB, zA]
 refine (gt) ?_
 refine (Qcd) (fun hc0=>?_) fun hc0=>?_
 ·have hc0 : i < 8 := by omega
  refine Qk<|Qs<|Qb<|(g5)<|(g3)<|Qp<|(Qm) ?_
  refine zT (p := 4) rfl rfl rfl (by omega) ?_
  refine (ga)<|(Q7 8) ?_
  refine z03 rfl rfl rfl (by omega) ?_
  refine wi (Uu 31) (Uu 5) rfl rfl rfl ?_
  refine (Qi)<|(Qu 1)<|Qn<|(go) ?_
  refine QzL ⟨i + 1, upd s (4 + i) _, rfl, rfl, rfl, by omega, (zeq hf0_1 rfl)⟩ ⟨rfl, rfl, rfl, rfl, trivial⟩ ⟨rfl, rfl, trivial⟩ ?_
  omega
 ·have hz0 : i = 8 := by omega
  subst hz0
  refine Qe<|(g4)<|(Qd 1) ?_
  refine (Aa (zeY rfl hf0_1))<|(Qt 0)<|Qn<|Qr ?_
  exact ⟨_, rfl, ya 0⟩
theorem z7X (k : NN) (n : Nat) (vt : Value) (tx : LN) (hvt : Sh G vt tx) (hl : 800 < tx.length) : Fp G 242 #[CV false k n, vt] (.tuple #[CZ, zV, ii 1]) := by
 refine Qf3 Tryz.func242 ?_
 refine (g4)<|(Qh 0) fun r1=>(QH 1) fun r2=>(gv)<|(QC hvt)<|(QG)<|(Qat)<|Qn<|(Qct)<|(g4) ?_
 refine yn (zr 34 [pV (.bool false), pI .u8 32 (fun _ => 0), pV (.int .u64 0)]) (Ub 33 rfl) (Uu 33 rfl) WH rfl (by kernel_rfl) rfl ?_
 refine (QW 1)<|(gr) ?_
 exact ⟨_, _, _, rfl, yb 1, yt, yt⟩
theorem zaG (k : NN) (n : Nat) (vt : Value) (tx : LN) (hvt : Sh G vt tx) (hl : tx.length ≤ 800) : Fq G [] 242 #[CV false k n, vt] (fun v l1 nw => l1 = [] ∧ ∃ v', v = .tuple #[CV false k n, v', ii 0] ∧ OwnS 5 1 v' tx.length (tx.map by8) nw) := by
 refine QfO Tryz.func242 ?_
 refine (g4)<|(Qh 0) fun r1=>(QH 1) fun r2=>(gv)<|(QC hvt)<|(QG)<|(Qaf)<|(gp)<|Qs<|(Qq ⟨[r2], 1, [], (some [r1]), none⟩) ?_
 refine zS (i := 0) (Uu 33) rfl (Uz 33) rfl rfl (z3 _ _) rfl ⟨[1], ⟨rfl, rfl, trivial⟩, _, rfl, by simp⟩ ?_
 refine Zc 2 (Uu 22 rfl) (Uz 5 rfl) rfl fun r3 => ?_
 refine (Qm) ?_
 refine Xo 2 YW hvt rfl (fun q hq => .inl hq) ⟨[0], rfl, rfl, trivial⟩ (Uu 22) (Uz 5) (Uy 5) (Ub 5) (by rfl) rfl rfl Yh (by simp only [maxLen]; omega) (by omega) rfl fun v2_1 oz2_1 ho2_1 => ?_
 refine z7 (i := 1) (Uz 33) rfl rfl (z3 _ _) (za ⟨fun _ => rfl, fun _ => rfl, fun _ => rfl, trivial⟩) rfl z8 (.inr (by simp)) ?_
 refine (gr) ?_
 exact ⟨_, _, _, _, _, 2, rfl, yb 1, yt, yt, (zw ho2_1 (by omega) rfl), rfl⟩
theorem zaL (x : Nat) : Fp G 260 #[uw x, .int .i64 (-16)] (uw (vH x 16)) := by
 refine Qf1 Tryz.func260 ?_
 refine (gb)<|(g5) ?_
 refine Xn (Uu 3) (Uu 201) rfl rfl rfl ?_
 refine (Av (u 18446744073709551600))<|(Q9 31) ?_
 refine (Av (u 16))<|(gj)<|(Qm) ?_
 refine Zj rfl rfl rfl (by omega) ?_
 refine (ga) ?_
 refine We (p := 32) rfl rfl rfl (by omega) ?_
 refine (Av (u 16)) ?_
 refine Zp rfl rfl rfl (by omega) ?_
 refine YA rfl rfl rfl  ?_
 refine (gh) ?_
 exact ⟨_, rfl, yt⟩
theorem zaZ (x : Nat) : Fp G 260 #[uw x, .int .i64 (-12)] (uw (vH x 20)) := by
 refine Qf1 Tryz.func260 ?_
 refine (gb)<|(g5) ?_
 refine Xn (Uu 3) (Uu 201) rfl rfl rfl ?_
 refine (Av (u 18446744073709551604))<|(Q9 31) ?_
 refine (Av (u 20))<|(gj)<|(Qm) ?_
 refine Zj rfl rfl rfl (by omega) ?_
 refine (ga) ?_
 refine We (p := 32) rfl rfl rfl (by omega) ?_
 refine (Av (u 12)) ?_
 refine Zp rfl rfl rfl (by omega) ?_
 refine YA rfl rfl rfl  ?_
 refine (gh) ?_
 exact ⟨_, rfl, yt⟩
theorem zeE (x : Nat) : Fp G 260 #[uw x, .int .i64 (-8)] (uw (vH x 24)) := by
 refine Qf1 Tryz.func260 ?_
 refine (gb)<|(g5) ?_
 refine Xn (Uu 3) (Uu 201) rfl rfl rfl ?_
 refine (Av (u 18446744073709551608))<|(Q9 31) ?_
 refine (Av (u 24))<|(gj)<|(Qm) ?_
 refine Zj rfl rfl rfl (by omega) ?_
 refine (ga) ?_
 refine We (p := 32) rfl rfl rfl (by omega) ?_
 refine (Av (u 8)) ?_
 refine Zp rfl rfl rfl (by omega) ?_
 refine YA rfl rfl rfl  ?_
 refine (gh) ?_
 exact ⟨_, rfl, yt⟩
theorem zeC (x : Nat) : Fp G 260 #[uw x, .int .i64 (-7)] (uw (vH x 25)) := by
 refine Qf1 Tryz.func260 ?_
 refine (gb)<|(g5) ?_
 refine Xn (Uu 3) (Uu 201) rfl rfl rfl ?_
 refine (Av (u 18446744073709551609))<|(Q9 31) ?_
 refine (Av (u 25))<|(gj)<|(Qm) ?_
 refine Zj rfl rfl rfl (by omega) ?_
 refine (ga) ?_
 refine We (p := 32) rfl rfl rfl (by omega) ?_
 refine (Av (u 7)) ?_
 refine Zp rfl rfl rfl (by omega) ?_
 refine YA rfl rfl rfl  ?_
 refine (gh) ?_
 exact ⟨_, rfl, yt⟩
theorem zlh (f : NN) (r a b c d x y : Nat) (ha : a < 16) (hb : b < 16) (hc : c < 16) (hd : d < 16) : Fq G [⟨r, arr .u32 16 f, 272⟩] 259 #[ii a, ii b, ii c, ii d, uw x, uw y, ptr r] (fun v l1 nw => v = .tuple #[] ∧ l1 = [⟨r, arr .u32 16 (mst f a b c d x y), 272⟩] ∧ nw = []) := by
 refine QfW Tryz.func259 ?_
 refine (gy)<|(Qm)<|(gq)<|(Qm)<|(gq)<|(Qm)<|(Qaw)<|(Qaw)<|(Qi)<|(Qu 0)<|Qn<|(gy)<|(ga)<|(gq)<|(Qm)<|(gq)<|(Qxw) ?_
 refine (Ca (zaL _))<|(Qi)<|(Qu 0)<|Qn<|(gy)<|(Qm)<|(gq)<|(Qm)<|(gq)<|(Qaw)<|(Qi)<|(Qu 0)<|Qn<|(gy)<|(ga)<|(gq)<|(Qm)<|(gq)<|(Qxw) ?_
 refine (Ca (zaZ _))<|(Qi)<|(Qu 0)<|Qn<|(gy)<|(Qm)<|(gq)<|(Qm)<|(gq)<|(Qm)<|(Qaw)<|(Qaw)<|(Qi)<|(Qu 0)<|Qn<|(gy)<|(ga)<|(gq)<|(Qm)<|(gq)<|(Qxw) ?_
 refine (Ca (zeE _))<|(Qi)<|(Qu 0)<|Qn<|(gy)<|(Qm)<|(gq)<|(Qm)<|(gq)<|(Qaw)<|(Qi)<|(Qu 0)<|Qn<|(Qg)<|(ga)<|(gq)<|(Qm)<|(gq)<|(Qxw) ?_
 refine (Ca (zeC _))<|(Qi)<|(Qu 0)<|Qn ?_
 exact ⟨rfl, 0, rfl⟩
theorem zd8 {G : Mem} (f : NN) (r a b c d x y : Nat) (ha : a < 16) (hb : b < 16) (hc : c < 16) (hd : d < 16) (ab : a ≠ b) (ac : a ≠ c) (ad : a ≠ d) (bc : b ≠ c) (bd : b ≠ d) (cd : c ≠ d) : Fq G [⟨r, arr .u32 16 f, 272⟩] 259 #[ii a, ii b, ii c, ii d, uw x, uw y, ptr r] (fun v l1 nw => v = .tuple #[] ∧ l1 = [⟨r, arr .u32 16 (mat f a b c d x y), 272⟩] ∧ nw = []) := by
 rw [← zhs f x y ab ac ad bc bd cd]
 exact zlh f r a b c d x y ha hb hc hd
abbrev DOR : Blk := ⟨6, arr .i64 160 sgf, 312⟩
theorem z1N (f g : NN) : Fp (DOR :: G) 233 #[.agg (arr .u32 16 f), .agg (arr .u32 16 g)] (.agg (arr .u32 16 (vz g f 10))) := by
 refine Qf1 Tryz.func233 ?_
 refine (g4)<|(Qh 0) fun r1=>(Qh 1) fun r2=>(QH 2) fun r3=>(gg)<|(QY)<|(gx)<|Qn<|Qb ?_
 refine QzK [(2, _), (3, _), (4, _), (5, _)] [(1, _), (2, _)] (fun kk E m => ∃ (r : Nat), kk = 10 - r ∧ E = [(10, ii r)] ∧ m = [(0, some ⟨r1, arr .u32 16 (vz g f r), 272⟩)] ∧ (r ≤ 10)) ⟨0, rfl, rfl, rfl, by omega⟩ ⟨rfl, rfl, rfl, rfl, rfl, trivial⟩ ⟨(Xh (zcO g f)), rfl, rfl, trivial⟩ ?_
 rintro kk E m ⟨r, rfl, rfl, rfl, hf0_0⟩
 simp only [zB, zA]
 refine (gt) ?_
 refine (Qcd) (fun hc0=>?_) fun hc0=>?_
 ·have hc0 : r < 10 := by omega
  refine Qk<|Qs<|Qb<|(g5)<|(gx)<|Qn<|Qb ?_
  refine QzK [(2, _), (3, _), (4, _), (5, _), (6, _), (10, _)] [(1, _), (2, _)] (fun kk E m => ∃ (i : Nat), kk = 4 - i ∧ E = [(13, ii i)] ∧ m = [(0, some ⟨r1, arr .u32 16 (ZF g r (vz g f r) i), 272⟩)] ∧ (i ≤ 4)) ⟨0, rfl, rfl, rfl, by omega⟩ ⟨rfl, rfl, rfl, rfl, rfl, rfl, rfl, trivial⟩ ⟨(Xh (zb3 g r (vz g f r))), rfl, rfl, trivial⟩ ?_
  rintro kk E m ⟨i, rfl, rfl, rfl, hf1_0⟩
  simp only [zB, zA]
  refine (gt) ?_
  refine (Qcd) (fun hc1=>?_) fun hc1=>?_
  ·have hc1 : i < 4 := by omega
   refine Qk<|Qs<|Qb<|(g5)<|(g3)<|(Qq ⟨[], 5, [], none, none⟩)<|(ga)<|(Qm) ?_
   refine zT (p := 4) rfl rfl rfl (by omega) ?_
   refine (Qm) ?_
   refine zT (p := 8) rfl rfl rfl (by omega) ?_
   refine (Qm) ?_
   refine zT (p := 12) rfl rfl rfl (by omega) ?_
   refine (ga)<|(Q7 2)<|(QB (16 * r))<|(QB (16 * r + 2 * i)) ?_
   refine yo (i := 0) (Uu 3) rfl rfl rfl (ye (by omega)) rfl ?_
   refine Z5 (Uu 272) (Uz 117) rfl rfl (vE r (2 * i)) rfl ?_
   refine yg (i := 1) (Uu 117) rfl rfl rfl (ye (vE r (2 * i))) rfl ⟨[], trivial⟩ ?_
   refine (ga)<|(Q7 2)<|(Q2 1)<|(QB (16 * r))<|(QB (16 * r + (2 * i + 1))) ?_
   refine yo (i := 0) (Uu 3) rfl rfl rfl (ye (by omega)) rfl ?_
   refine Z5 (Uu 272) (Uz 117) rfl rfl (vE r (2 * i + 1)) rfl ?_
   refine yg (i := 1) (Uu 117) rfl rfl rfl (ye (vE r (2 * i + 1))) rfl ⟨[], trivial⟩ ?_
   refine z0j 0 rfl rfl (Un 259) rfl (by simp) (zd8 (G := []) (ZF g r (vz g f r) i) r1 i (4 + i) (8 + i) (12 + i) (g (sig r (2 * i))) (g (sig r (2 * i + 1))) (by omega) (by omega) (by omega) (by omega) (by omega) (by omega) (by omega) (by omega) (by omega) (by omega)) rfl rfl ?_
   refine Qn<|(go) ?_
   refine QzL ⟨i + 1, rfl, rfl, rfl, by omega⟩ ⟨rfl, rfl, rfl, rfl, rfl, rfl, rfl, trivial⟩ ⟨(Xh (zcI g r (vz g f r) i)), rfl, rfl, trivial⟩ ?_
   omega
  ·have hz1 : i = 4 := by omega
   refine Qe<|(g5)<|Qn<|Qb ?_
   refine QzK [(2, _), (3, _), (4, _), (5, _), (6, _), (10, _), (13, _)] [(1, _), (2, _)] (fun kk E m => ∃ (j : Nat), kk = 4 - j ∧ E = [(43, ii j)] ∧ m = [(0, some ⟨r1, arr .u32 16 (wE g r (ZF g r (vz g f r) 4) j), 272⟩)] ∧ (j ≤ 4)) ⟨0, rfl, rfl, rfl, by omega⟩ ⟨rfl, rfl, rfl, rfl, rfl, rfl, rfl, rfl, trivial⟩ ⟨(Xh ((congrArg (ZF g r (vz g f r)) hz1).trans (zcs g r (ZF g r (vz g f r) 4)))), rfl, rfl, trivial⟩ ?_
   rintro kk E m ⟨j, rfl, rfl, rfl, hf2_0⟩
   simp only [zB, zA]
   refine (gt) ?_
   refine (Qcd) (fun hc2=>?_) fun hc2=>?_
   ·have hc2 : j < 4 := by omega
    refine Qk<|Qs<|Qb<|(g5)<|(g3)<|(Qq ⟨[], 5, [], none, none⟩)<|(ga)<|(Qm)<|(Q2 1)<|(Q4 4) ?_
    refine zT (p := 4) rfl rfl rfl (by omega) ?_
    refine (Qm)<|(Q2 2)<|(Q4 4) ?_
    refine zT (p := 8) rfl rfl rfl (by omega) ?_
    refine (Qm)<|(Q2 3)<|(Q4 4) ?_
    refine zT (p := 12) rfl rfl rfl (by omega) ?_
    refine (ga)<|(Q7 2) ?_
    refine zT (p := 8) rfl rfl rfl (by omega) ?_
    refine (QB (16 * r))<|(QB (16 * r + (8 + 2 * j))) ?_
    refine yo (i := 0) (Uu 3) rfl rfl rfl (ye (by omega)) rfl ?_
    refine Z5 (Uu 272) (Uz 117) rfl rfl (vE r (8 + 2 * j)) rfl ?_
    refine yg (i := 1) (Uu 117) rfl rfl rfl (ye (vE r (8 + 2 * j))) rfl ⟨[], trivial⟩ ?_
    refine (ga)<|(Q7 2) ?_
    refine zT (p := 9) rfl rfl rfl (by omega) ?_
    refine (QB (16 * r))<|(QB (16 * r + (9 + 2 * j))) ?_
    refine yo (i := 0) (Uu 3) rfl rfl rfl (ye (by omega)) rfl ?_
    refine Z5 (Uu 272) (Uz 117) rfl rfl (vE r (9 + 2 * j)) rfl ?_
    refine yg (i := 1) (Uu 117) rfl rfl rfl (ye (vE r (9 + 2 * j))) rfl ⟨[], trivial⟩ ?_
    refine z0j 0 rfl rfl (Un 259) rfl (by simp) (zd8 (G := []) (wE g r (ZF g r (vz g f r) 4) j) r1 j (4 + (j + 1) % 4) (8 + (j + 2) % 4) (12 + (j + 3) % 4) (g (sig r (8 + 2 * j))) (g (sig r (9 + 2 * j))) (by omega) (by omega) (by omega) (by omega) (by omega) (by omega) (by omega) (by omega) (by omega) (by omega)) rfl rfl ?_
    refine Qn<|(go) ?_
    refine QzL ⟨j + 1, rfl, rfl, rfl, by omega⟩ ⟨rfl, rfl, rfl, rfl, rfl, rfl, rfl, rfl, trivial⟩ ⟨(Xh (zba g r (ZF g r (vz g f r) 4) j)), rfl, rfl, trivial⟩ ?_
    omega
   ·have hz2 : j = 4 := by omega
    refine Qe<|(go) ?_
    refine QzL ⟨r + 1, rfl, rfl, rfl, by omega⟩ ⟨rfl, rfl, rfl, rfl, rfl, trivial⟩ ⟨(Xh ((congrArg (wE g r (ZF g r (vz g f r) 4)) hz2).trans (zaA g f r))), rfl, rfl, trivial⟩ ?_
    omega
 ·have hz0 : r = 10 := by omega
  refine Qe<|(g4)<|(Qd 0)<|(Qt 2)<|Qn<|Qr ?_
  rw [show vz g f 10 = vz g f r by rw [hz0]]
  exact ⟨_, rfl, ya 2⟩
theorem z6P (d : NN) (hd : L8 64 d) : Fp G 235 #[.agg (arr .u8 64 d)] (.agg (arr .u32 16 (wrd ((List.range 64).map d)))) := by
 refine Qf1 Tryz.func235 ?_
 refine (g4)<|(Qh 0) fun r1=>(QH 1) fun r2=>(gg)<|(QH 2) fun r3=>Qn<|(gu)<|(Qd 0)<|(Qm)<|Qn<|Qb ?_
 refine QzK [(2, _), (3, _), (6, _)] [(0, _), (1, _)] (fun kk E m => ∃ (i : Nat) (s : Nat → Nat), kk = 64 - i ∧ E = [(7, ii i)] ∧ m = [(2, some ⟨r3, arr .u32 16 s, 272⟩)] ∧ (i ≤ 64) ∧ (∀ t, t < 16 → s t = pw d i t)) ⟨0, fun _ => 0, rfl, rfl, rfl, by omega, fun t _ => (za4 d t).symm⟩ ⟨rfl, rfl, rfl, rfl, trivial⟩ ⟨rfl, rfl, rfl, trivial⟩ ?_
 rintro kk E m ⟨i, s, rfl, rfl, rfl, hf0_0, hf0_1⟩
 simp only [zB, zA]
 refine (gt) ?_
 refine (Qcd) (fun hc0=>?_) fun hc0=>?_
 ·have hc0 : i < 64 := by omega
  refine Qk<|Qs<|Qb<|(g5)<|(QX)<|(g7)<|(Qg)<|(Qm)<|(Q5 4)<|(Qi)<|(Q1 2)<|(Qm)<|(Qcw) ?_
  refine zi (congrArg uw (Nat.mod_eq_of_lt (Nat.lt_trans (hd i (by omega)) (by decide)))) ?_
  refine (Qm)<|(Q4 4)<|(Q6 8) ?_
  refine Zj rfl rfl rfl (by omega) ?_
  refine YA rfl rfl rfl  ?_
  refine (Qi)<|(Qu 2)<|Qn<|(go) ?_
  refine QzL ⟨i + 1, upd s (i / 4) _, rfl, rfl, rfl, by omega, z7A hd (by omega) hf0_1⟩ ⟨rfl, rfl, rfl, rfl, trivial⟩ ⟨rfl, rfl, rfl, trivial⟩ ?_
  omega
 ·have hz0 : i = 64 := by omega
  subst hz0
  refine Qe<|(g4)<|(Qd 2)<|(Qt 1)<|Qn<|Qr ?_
  rw [← zz (k := .u32) (n := 16) (zbb d), ← zz (k := .u32) (n := 16) hf0_1]
  exact ⟨_, rfl, ya 1⟩
theorem z8o : Fp G 193 #[] (.agg (arr .u32 8 ivf)) := by
 refine Qf1 Tryz.func193 ?_
 refine (g4)<|(QH 0) fun r1=>(gg) ?_
 refine yG (arr .u32 8 ivf) (Ub 145 rfl) (Uu 145 rfl) (Uz 117 rfl) rfl (by kernel_rfl) rfl ?_
 refine (Qt 0)<|Qn<|Qr ?_
 exact ⟨_, rfl, ya 0⟩
theorem z4G (h d : NN) (n ln : Nat) (hl : ln < 4294967296) : Fp G 234 #[.agg (zr 74 [pI .u32 8 h, pI .u8 64 d, pV (.int .i64 (n : Int)), pV (.int .i64 (ln : Int))]), .bool true] (.agg (arr .u32 16 (w0 h ln true))) := by
 refine Qf1 Tryz.func234 ?_
 refine (g4)<|(Qh 0) fun r1=>(QH 1) fun r2=>(gg)<|(QH 2) fun r3=>Qn<|(gu) ?_
 refine (Ca z8o)<|(Qm)<|Qn<|Qb ?_
 refine QzK [(1, _), (2, _), (4, _), (5, _), (8, _)] [(0, _), (1, _)] (fun kk E m => ∃ (i : Nat) (s : Nat → Nat), kk = 8 - i ∧ E = [(9, ii i)] ∧ m = [(2, some ⟨r3, arr .u32 16 s, 272⟩)] ∧ (i ≤ 8) ∧ (∀ t, t < 16 → s t = if t % 8 < i then w00 h t else 0)) ⟨0, fun _ => 0, rfl, rfl, rfl, by omega, fun t _ => by rw [if_neg (by omega)]⟩ ⟨rfl, rfl, rfl, rfl, rfl, rfl, trivial⟩ ⟨rfl, rfl, rfl, trivial⟩ ?_
 rintro kk E m ⟨i, s, rfl, rfl, rfl, hf0_0, hf0_1⟩
 simp only [zB, zA]
 refine (gt) ?_
 refine (Qcd) (fun hc0=>?_) fun hc0=>?_
 ·have hc0 : i < 8 := by omega
  refine Qk<|Qs<|Qb<|(g5)<|(QX)<|(g7)<|Qp<|(ga) ?_
  refine zT (p := 8) rfl rfl rfl (by omega) ?_
  refine (Qm)<|(Qf 0)<|(Qi) ?_
  refine z3h (i := 0) 0 (i) (Uu 117) rfl rfl rfl rfl (by first | rfl | omega) (by omega) (by omega) rfl ⟨[], trivial⟩ ?_
  refine (Qm)<|(Qi)<|(Qu 2)<|(Qi)<|(Qu 2)<|Qn<|(go) ?_
  refine QzL ⟨i + 1, upd (upd s i _) (8 + i) _, rfl, rfl, rfl, by omega, z6p (by omega) hf0_1⟩ ⟨rfl, rfl, rfl, rfl, rfl, rfl, trivial⟩ ⟨rfl, rfl, rfl, trivial⟩ ?_
  omega
 ·have hz0 : i = 8 := by omega
  subst hz0
  refine Qe<|(g4)<|(Qj 12)<|(Q1 2)<|(Qf 73)<|(QV 3 0)<|(Qcw)<|(Qxw)<|(Qj 12)<|(Qu 2)<|(gg)<|(Qj 13)<|(Q1 2)<|(Qf 73)<|(QV 3 0) ?_
  refine Zg (s := 32) rfl rfl rfl (by omega) ?_
  refine (Ai (show ln / 2 ^ 32 = 0 by omega))<|(Qcw)<|(Qxw)<|(Qj 13)<|(Qu 2)<|Qn<|(gc)<|Qn<|(Qct)<|Qp<|(Qj 14)<|(Q1 2) ?_
  refine zaH rfl rfl ?_
  refine (Qj 14)<|(Qu 2)<|(gg)<|(Qd 2)<|(Qt 1)<|Qn<|Qr ?_
  rw [← zz (zeh hf0_1)]
  exact ⟨_, rfl, ya 1⟩
theorem z3R (h d : NN) (n ln : Nat) (hl : ln < 4294967296) : Fp G 234 #[.agg (zr 74 [pI .u32 8 h, pI .u8 64 d, pV (.int .i64 (n : Int)), pV (.int .i64 (ln : Int))]), .bool false] (.agg (arr .u32 16 (w0 h ln false))) := by
 refine Qf1 Tryz.func234 ?_
 refine (g4)<|(Qh 0) fun r1=>(QH 1) fun r2=>(gg)<|(QH 2) fun r3=>Qn<|(gu) ?_
 refine (Ca z8o)<|(Qm)<|Qn<|Qb ?_
 refine QzK [(1, _), (2, _), (4, _), (5, _), (8, _)] [(0, _), (1, _)] (fun kk E m => ∃ (i : Nat) (s : Nat → Nat), kk = 8 - i ∧ E = [(9, ii i)] ∧ m = [(2, some ⟨r3, arr .u32 16 s, 272⟩)] ∧ (i ≤ 8) ∧ (∀ t, t < 16 → s t = if t % 8 < i then w00 h t else 0)) ⟨0, fun _ => 0, rfl, rfl, rfl, by omega, fun t _ => by rw [if_neg (by omega)]⟩ ⟨rfl, rfl, rfl, rfl, rfl, rfl, trivial⟩ ⟨rfl, rfl, rfl, trivial⟩ ?_
 rintro kk E m ⟨i, s, rfl, rfl, rfl, hf0_0, hf0_1⟩
 simp only [zB, zA]
 refine (gt) ?_
 refine (Qcd) (fun hc0=>?_) fun hc0=>?_
 ·have hc0 : i < 8 := by omega
  refine Qk<|Qs<|Qb<|(g5)<|(QX)<|(g7)<|Qp<|(ga) ?_
  refine zT (p := 8) rfl rfl rfl (by omega) ?_
  refine (Qm)<|(Qf 0)<|(Qi) ?_
  refine z3h (i := 0) 0 (i) (Uu 117) rfl rfl rfl rfl (by first | rfl | omega) (by omega) (by omega) rfl ⟨[], trivial⟩ ?_
  refine (Qm)<|(Qi)<|(Qu 2)<|(Qi)<|(Qu 2)<|Qn<|(go) ?_
  refine QzL ⟨i + 1, upd (upd s i _) (8 + i) _, rfl, rfl, rfl, by omega, z6p (by omega) hf0_1⟩ ⟨rfl, rfl, rfl, rfl, rfl, rfl, trivial⟩ ⟨rfl, rfl, rfl, trivial⟩ ?_
  omega
 ·have hz0 : i = 8 := by omega
  subst hz0
  refine Qe<|(g4)<|(Qj 12)<|(Q1 2)<|(Qf 73)<|(QV 3 0)<|(Qcw)<|(Qxw)<|(Qj 12)<|(Qu 2)<|(gg)<|(Qj 13)<|(Q1 2)<|(Qf 73)<|(QV 3 0) ?_
  refine Zg (s := 32) rfl rfl rfl (by omega) ?_
  refine (Ai (show ln / 2 ^ 32 = 0 by omega))<|(Qcw)<|(Qxw)<|(Qj 13)<|(Qu 2)<|Qn<|(gc)<|(gp)<|(g4)<|(Qd 2)<|(Qt 1)<|Qn<|Qr ?_
  rw [← zz (z3g hf0_1)]
  exact ⟨_, rfl, ya 1⟩
theorem z7V : Fp G 142 #[] (.agg (zr 74 [pI .u32 8 z5s, pI .u8 64 (fun _ => 0), pV (.int .i64 0), pV (.int .i64 0)])) := by
 refine Qf1 Tryz.func142 ?_
 refine (g4)<|(QH 0) fun r1=>(gg) ?_
 refine (Ca z8o)<|(QH 1) fun r2=>(Qt 1)<|(gg)<|(Qj 0)<|(Q1 1) ?_
 refine z9E (q := 16842784) rfl rfl rfl  ?_
 refine (Qj 0)<|(Qu 1)<|(gg)<|(Qd 1) ?_
 refine yn (zr 74 [pI .u32 8 z5s, pI .u8 64 (fun _ => 0), pV (.int .i64 0), pV (.int .i64 0)]) (Ub 148 rfl) (Uu 148 rfl) zkF rfl (by kernel_rfl) rfl ?_
 refine (QW 0)<|Qn<|Qr ?_
 exact ⟨_, rfl, yb 0⟩
theorem zb8 (h d : NN) (n ln : Nat) (hd : L8 64 d) (hl : ln < 4294967296) : Fp (DOR :: G) 192 #[.agg (zr 74 [pI .u32 8 h, pI .u8 64 d, pV (.int .i64 (n : Int)), pV (.int .i64 (ln : Int))]), .bool true] (.agg (arr .u32 8 (sqz h ((List.range 64).map d) ln true))) := by
 obtain ⟨v, hv⟩ : ∃ v, v = vz (wrd ((List.range 64).map d)) (w0 h ln true) 10 := ⟨_, rfl⟩
 have hvb : ∀ t, t < 16 → v t = brs ((List.range 64).map d) (w0 h ln true) 10 t := fun t ht => by rw [hv]; exact z4s (fun _ _ => rfl) 10 t ht
 obtain ⟨z, hz⟩ : ∃ z, z = sqz h ((List.range 64).map d) ln true := ⟨_, rfl⟩
 rw [← hz]
 refine Qf1 Tryz.func192 ?_
 refine (g4)<|(Qh 0) fun r1=>(QH 1) fun r2=>Qn<|(gy)<|(QD 0)<|(Qm) ?_
 refine (Ca (z4G h d n ln hl))<|(Qf 8)<|(Qv 1 0) ?_
 refine (Ca (z6P d hd)) ?_
 refine (Ca (z1N (w0 h ln true) (wrd ((List.range 64).map d)))) ?_
 refine zi (congrArg (fun f => Value.agg (arr .u32 16 f)) hv.symm) ?_
 refine (QH 2) fun r3=>(Qt 2)<|Qn<|(gc)<|Qn<|Qb ?_
 refine QzK [(2, _), (4, _), (5, _)] [(1, _), (2, _)] (fun kk E m => ∃ (q : Nat) (s : Nat → Nat), kk = 8 - q ∧ E = [(14, ii q)] ∧ m = [(0, some ⟨r1, zr 74 [pI .u32 8 s, pI .u8 64 d, pV (.int .i64 (n : Int)), pV (.int .i64 (ln : Int))], 148⟩)] ∧ (q ≤ 8) ∧ (∀ t, t < 8 → s t = if t < q then z t else h t)) ⟨0, h, rfl, rfl, rfl, by omega, fun t _ => by rw [if_neg (by omega)]⟩ ⟨rfl, rfl, rfl, rfl, trivial⟩ ⟨rfl, rfl, rfl, trivial⟩ ?_
 rintro kk E m ⟨q, s, rfl, rfl, rfl, hf0_0, hf0_1⟩
 simp only [zB, zA]
 refine (gt) ?_
 refine (Qcd) (fun hc0=>?_) fun hc0=>?_
 ·have hc0 : q < 8 := by omega
  refine Qk<|Qs<|Qb<|(g5)<|(g3)<|(Qg)<|(Qm)<|(Qf 0)<|(Qi) ?_
  refine z3h (i := 0) 0 (q) (Uu 117) rfl rfl rfl rfl (by first | rfl | omega) (by omega) (by omega) rfl ⟨[], trivial⟩ ?_
  refine (Qm)<|(Qi)<|(Q1 2)<|(Qm) ?_
  refine zT (p := 8) rfl rfl rfl (by omega) ?_
  refine (Qi)<|(Q1 2)<|(Qxw)<|(Qxw)<|(Qf 0)<|(Qi) ?_
  refine zeG (i := 0) 0 (q) (Uz 117) rfl rfl rfl rfl (by first | rfl | omega) (by omega) (by omega) (.inl rfl) ?_
  refine Qn<|(go) ?_
  refine QzL ⟨q + 1, upd s q _, rfl, rfl, rfl, by omega, z5z (by omega) hvb hz hf0_1⟩ ⟨rfl, rfl, rfl, rfl, trivial⟩ ⟨rfl, rfl, rfl, trivial⟩ ?_
  omega
 ·have hz0 : q = 8 := by omega
  subst hz0
  refine Qe<|(g4)<|(Qf 0)<|(Qv 0 0)<|(Qt 1)<|Qn<|Qr ?_
  rw [← zz (k := .u32) (n := 8) (fun t ht => (hf0_1 t ht).trans (if_pos (by omega)))]
  exact ⟨_, rfl, ya 1⟩
theorem z80 (h d : NN) (n ln : Nat) (hd : L8 64 d) (hl : ln < 4294967296) : Fp (DOR :: G) 192 #[.agg (zr 74 [pI .u32 8 h, pI .u8 64 d, pV (.int .i64 (n : Int)), pV (.int .i64 (ln : Int))]), .bool false] (.agg (arr .u32 8 (sqz h ((List.range 64).map d) ln false))) := by
 obtain ⟨v, hv⟩ : ∃ v, v = vz (wrd ((List.range 64).map d)) (w0 h ln false) 10 := ⟨_, rfl⟩
 have hvb : ∀ t, t < 16 → v t = brs ((List.range 64).map d) (w0 h ln false) 10 t := fun t ht => by rw [hv]; exact z4s (fun _ _ => rfl) 10 t ht
 obtain ⟨z, hz⟩ : ∃ z, z = sqz h ((List.range 64).map d) ln false := ⟨_, rfl⟩
 rw [← hz]
 refine Qf1 Tryz.func192 ?_
 refine (g4)<|(Qh 0) fun r1=>(QH 1) fun r2=>Qn<|(gy)<|(QD 0)<|(Qm) ?_
 refine (Ca (z3R h d n ln hl))<|(Qf 8)<|(Qv 1 0) ?_
 refine (Ca (z6P d hd)) ?_
 refine (Ca (z1N (w0 h ln false) (wrd ((List.range 64).map d)))) ?_
 refine zi (congrArg (fun f => Value.agg (arr .u32 16 f)) hv.symm) ?_
 refine (QH 2) fun r3=>(Qt 2)<|Qn<|(gc)<|Qn<|Qb ?_
 refine QzK [(2, _), (4, _), (5, _)] [(1, _), (2, _)] (fun kk E m => ∃ (q : Nat) (s : Nat → Nat), kk = 8 - q ∧ E = [(14, ii q)] ∧ m = [(0, some ⟨r1, zr 74 [pI .u32 8 s, pI .u8 64 d, pV (.int .i64 (n : Int)), pV (.int .i64 (ln : Int))], 148⟩)] ∧ (q ≤ 8) ∧ (∀ t, t < 8 → s t = if t < q then z t else h t)) ⟨0, h, rfl, rfl, rfl, by omega, fun t _ => by rw [if_neg (by omega)]⟩ ⟨rfl, rfl, rfl, rfl, trivial⟩ ⟨rfl, rfl, rfl, trivial⟩ ?_
 rintro kk E m ⟨q, s, rfl, rfl, rfl, hf0_0, hf0_1⟩
 simp only [zB, zA]
 refine (gt) ?_
 refine (Qcd) (fun hc0=>?_) fun hc0=>?_
 ·have hc0 : q < 8 := by omega
  refine Qk<|Qs<|Qb<|(g5)<|(g3)<|(Qg)<|(Qm)<|(Qf 0)<|(Qi) ?_
  refine z3h (i := 0) 0 (q) (Uu 117) rfl rfl rfl rfl (by first | rfl | omega) (by omega) (by omega) rfl ⟨[], trivial⟩ ?_
  refine (Qm)<|(Qi)<|(Q1 2)<|(Qm) ?_
  refine zT (p := 8) rfl rfl rfl (by omega) ?_
  refine (Qi)<|(Q1 2)<|(Qxw)<|(Qxw)<|(Qf 0)<|(Qi) ?_
  refine zeG (i := 0) 0 (q) (Uz 117) rfl rfl rfl rfl (by first | rfl | omega) (by omega) (by omega) (.inl rfl) ?_
  refine Qn<|(go) ?_
  refine QzL ⟨q + 1, upd s q _, rfl, rfl, rfl, by omega, z5z (by omega) hvb hz hf0_1⟩ ⟨rfl, rfl, rfl, rfl, trivial⟩ ⟨rfl, rfl, rfl, trivial⟩ ?_
  omega
 ·have hz0 : q = 8 := by omega
  subst hz0
  refine Qe<|(g4)<|(Qf 0)<|(Qv 0 0)<|(Qt 1)<|Qn<|Qr ?_
  rw [← zz (k := .u32) (n := 8) (fun t ht => (hf0_1 t ht).trans (if_pos (by omega)))]
  exact ⟨_, rfl, ya 1⟩
theorem zcn (h d : NN) (n ln : Nat) (v : Value) (l : LN) (hv : Sh (DOR :: G) v l) (hlb : By l) (hd : L8 64 d) (hok : okB n ln d = true) (hz : ln + l.length ≤ 1073741824) : Fp (DOR :: G) 141 #[.agg (zr 74 [pI .u32 8 h, pI .u8 64 d, pV (.int .i64 (n : Int)), pV (.int .i64 (ln : Int))]), v] (.agg (zr 74 [pI .u32 8 (XB h (ln - n) (sS d n l) (xc (sS d n l).length)), pI .u8 64 (fun i => ((sS d n l).drop (64 * xc (sS d n l).length)).getD i 0), pV (.int .i64 (((sS d n l).drop (64 * xc (sS d n l).length)).length : Nat)), pV (.int .i64 (ln + l.length : Nat))])) := by
 obtain ⟨_, hnl, hn, hmod, _⟩ := z5l hok
 refine Qf1 Tryz.func141 ?_
 refine (g4)<|(Qh 0) fun r1=>(QH 1) fun r2=>Qn<|Qs<|Qb ?_
 refine QzK [(2, _), (4, _)] [(1, _)] (fun kk E m => ∃ (hh : Nat → Nat) (g : Nat → Nat) (nn : Nat) (q : Nat) (bv : Value), kk = ln + l.length - q ∧ E = [(1, bv)] ∧ m = [(0, some ⟨r1, zr 74 [pI .u32 8 hh, pI .u8 64 g, pV (.int .i64 ((nn : Nat) : Int)), pV (.int .i64 ((q : Nat) : Int))], 148⟩)] ∧ (ZY h d n ln l hh g nn q) ∧ (Shows (DOR :: G) 1 bv (l.drop (q - ln)).length ((l.drop (q - ln)).map by8))) ⟨h, d, n, ln, v, rfl, rfl, rfl, zce l hok, (by rw [Nat.sub_self]; exact hv)⟩ ⟨rfl, rfl, rfl, trivial⟩ ⟨rfl, rfl, trivial⟩ ?_
 rintro kk E m ⟨hh, g, nn, q, bv, rfl, rfl, rfl, hf0_0, hf0_1⟩
 simp only [zB, zA]
 have hq1 := hf0_0.1
 have hq2 := hf0_0.2.1
 have hnn := zmJ hf0_0
 have hwl : (l.drop (q - ln)).length = l.length - (q - ln) := List.length_drop
 refine (gc)<|(QC hf0_1)<|(QG)<|Qn ?_
 refine ze rfl ?_ ?_
 ·intro hc0
  have hw0 : 0 < (l.drop (q - ln)).length := by have := of_decide_eq_true hc0; omega
  refine Qk<|Qb<|Qs<|Qs ?_
  rcases (by omega : nn = 64 ∨ nn < 64) with hN | hN
  ·skip
   refine Qp<|(Qf 72)<|(QV 2 0)<|(Qc)<|Qn ?_
   refine ze rfl ?_ ?_
   ·intro hc1
    refine (gf) ?_
    refine (Ca (z80 hh g nn q (zkV hd hn hlb hf0_0) (by omega)))<|(Qf 0)<|(QtC 0 0)<|Qn<|Qp ?_
    refine vA (Ub 146 rfl) (Uu 146 rfl) z7O rfl ?_
    refine (Qf 8)<|(QtC 0 1)<|(Qf 72)<|(QtV 0 2)<|(gg)<|(Qf 8)<|(Qf 72)<|(QV 2 0) ?_
    refine Z4 0 64 (Uu 146) (Uz 5) rfl rfl rfl ⟨_, rfl⟩ rfl (by omega) (by omega) (by omega) rfl ?_
    refine (Qm) ?_
    refine z5R (i := 0) (o := 8) (L := 64) 1 (0) (Uu 22) (Uz 5) hf0_1 zo rfl rfl rfl rfl (by omega) (by omega) (by decide) rfl ?_
    refine (g3)<|(g4)<|(Qf 72)<|(QV 2 0) ?_
    refine (Av (ii 0))<|(Qm)<|(Q3)<|(Qf 72)<|(QtV 0 2)<|(gg)<|(Qf 73)<|(QV 3 0)<|(Qm)<|(Q3)<|(Qf 73)<|(QtV 0 3)<|Qn<|Qp<|(ga) ?_
    refine xb _ (l.drop (q - ln)).length hf0_1 (Uu 22) (Uz 5) rfl rfl rfl ⟨_, rfl⟩ rfl (by omega) (by omega) rfl ?_
    refine (g3) ?_
    refine QzL ⟨_, _, _, _, _, rfl, rfl, rfl, (by first | exact z4P hnl hf0_0 hN hmod rfl hw0 rfl (fun _ _ => rfl) rfl rfl | exact z5q hf0_0 hN rfl hw0 (fun _ _ => rfl) rfl rfl), (z31 hf0_1 (by omega) hq1)⟩ ⟨rfl, rfl, rfl, trivial⟩ ⟨rfl, rfl, trivial⟩ ?_
    omega
   ·intro hc1
    exact absurd (of_decide_eq_false hc1) (by omega)
  ·skip
   refine Qp<|(Qf 72)<|(QV 2 0)<|(Qc)<|Qn ?_
   refine ze rfl ?_ ?_
   ·intro hc1
    exact absurd (of_decide_eq_true hc1) (by omega)
   ·intro hc1
    refine Qk<|(g4)<|(Qf 8)<|(Qf 72)<|(QV 2 0) ?_
    refine Z4 nn 64 (Uu 146) (Uz 5) rfl rfl rfl ⟨_, rfl⟩ rfl (by omega) (by omega) (by omega) rfl ?_
    refine (Qm) ?_
    refine z5R (i := 0) (o := 8) (L := 64) 1 (nn) (Uu 22) (Uz 5) hf0_1 zo rfl rfl rfl rfl (by omega) (by omega) (by decide) rfl ?_
    refine (g3)<|(g4)<|(Qf 72)<|(QV 2 0)<|(Qm)<|(Q3)<|(Qf 72)<|(QtV 0 2)<|(gg)<|(Qf 73)<|(QV 3 0)<|(Qm)<|(Q3)<|(Qf 73)<|(QtV 0 3)<|Qn<|Qp<|(ga) ?_
    refine xb _ (l.drop (q - ln)).length hf0_1 (Uu 22) (Uz 5) rfl rfl rfl ⟨_, rfl⟩ rfl (by omega) (by omega) rfl ?_
    refine (g3) ?_
    refine QzL ⟨_, _, _, _, _, rfl, rfl, rfl, (by first | exact z4P hnl hf0_0 hN hmod rfl hw0 rfl (fun _ _ => rfl) rfl rfl | exact z5q hf0_0 hN rfl hw0 (fun _ _ => rfl) rfl rfl), (z31 hf0_1 (by omega) hq1)⟩ ⟨rfl, rfl, rfl, trivial⟩ ⟨rfl, rfl, trivial⟩ ?_
    omega
 ·intro hc0
  have hw0 : (l.drop (q - ln)).length = 0 := by have := of_decide_eq_false hc0; omega
  obtain ⟨a1, a2, a3, a4⟩ := zfc hf0_0 hw0
  refine Qe<|(gf) ?_
  refine zi (Eq.trans (show _ = .agg (zr 74 [pI .u32 8 hh, pI .u8 64 g, pV (.int .i64 ((nn : Nat) : Int)), pV (.int .i64 ((q : Nat) : Int))]) from rfl) (zev a1 a2 a3 a4)) ?_
  refine (QW 1)<|Qn<|Qr ?_
  exact ⟨_, rfl, yb 1⟩
theorem z7f (h d : NN) (n ln : Nat) (hd : L8 64 d) (hl : ln < 4294967296) : Fp (DOR :: G) 140 #[.agg (zr 74 [pI .u32 8 h, pI .u8 64 d, pV (.int .i64 (n : Int)), pV (.int .i64 (ln : Int))])] (.agg (arr .u8 32 (VL (sqz h ((List.range 64).map d) ln true)))) := by
 obtain ⟨w, hw⟩ : ∃ w, w = (sqz h ((List.range 64).map d) ln true) := ⟨_, rfl⟩
 rw [← hw]
 refine Qf1 Tryz.func140 ?_
 refine (g4)<|(Qh 0) fun r1=>(QH 1) fun r2=>Qn<|(gf) ?_
 refine (Ca (zb8 h d n ln hd hl)) ?_
 refine zi (congrArg (fun f => Value.agg (arr .u32 8 f)) hw.symm) ?_
 refine (QH 2) fun r3=>(Qt 2)<|(gg)<|(QH 3) fun r4=>Qn<|(gc)<|Qn<|Qb ?_
 refine QzK [(2, _), (3, _), (4, _)] [(0, _), (1, _), (2, _)] (fun kk E m => ∃ (i : Nat) (s : Nat → Nat), kk = 32 - i ∧ E = [(8, ii i)] ∧ m = [(3, some ⟨r4, arr .u8 32 s, 30⟩)] ∧ (i ≤ 32) ∧ (∀ t, t < i → s t = VL w t)) ⟨0, fun _ => 0, rfl, rfl, rfl, by omega, fun t ht => absurd ht (Nat.not_lt_zero t)⟩ ⟨rfl, rfl, rfl, rfl, trivial⟩ ⟨rfl, rfl, rfl, rfl, trivial⟩ ?_
 rintro kk E m ⟨i, s, rfl, rfl, rfl, hf0_0, hf0_1⟩
 simp only [zB, zA]
 refine (gt) ?_
 refine (Qcd) (fun hc0=>?_) fun hc0=>?_
 ·have hc0 : i < 32 := by omega
  refine Qk<|Qs<|Qb<|(g5)<|(g3)<|Qp<|(ga)<|(Q5 4)<|(Qi)<|(Q1 2)<|(Qm)<|(Q4 4)<|(Q6 8) ?_
  refine Zp rfl rfl rfl (by omega) ?_
  refine wi (Uu 117) (Uu 5) rfl rfl rfl ?_
  refine (Qi)<|(Qu 3)<|Qn<|(go) ?_
  refine QzL ⟨i + 1, upd s i _, rfl, rfl, rfl, by omega, wF hf0_1 (ziX w (by omega))⟩ ⟨rfl, rfl, rfl, rfl, trivial⟩ ⟨rfl, rfl, rfl, rfl, trivial⟩ ?_
  omega
 ·have hz0 : i = 32 := by omega
  subst hz0
  refine Qe<|(g4)<|(Qd 3)<|(Qt 1)<|Qn<|Qr ?_
  rw [← zz (k := .u8) (n := 32) hf0_1]
  exact ⟨_, rfl, ya 1⟩
theorem zhB : .agg (zr 74 [pI .u32 8 z5s, pI .u8 64 (fun _ => 0), pV (.int .i64 0), pV (.int .i64 0)]) = stB [] := by
 unfold stB cB
 rw [zbm, zh0]; rfl
theorem z5X {G : Mem} (m : LN) (v : Value) (l : LN) (hm : By m) (hv : Sh (DOR :: G) v l) (hlb : By l) (hz : m.length + l.length ≤ 1073741824) :
  Fn Tryz.prog (DOR :: G) 141 #[stB m, v] (stB (m ++ l)) := by
 have h := zcn (G := G) (z4n m) (ZA m) (xl m).length m.length v l hv hlb (fun j _ => z6E hm j) (zf4 m) hz
 rw [zfV, zjo, zg2, zaV, ← List.length_append] at h
 exact h
theorem z6g {G : Mem} (m : LN) (hm : By m) (hz : m.length ≤ 1073741824) : Fp (DOR :: G) 140 #[stB m] (.agg (arr .u8 32 (XA m))) := by
 have h := z7f (G := G) (z4n m) (ZA m) (xl m).length m.length (fun j _ => z6E hm j) (by omega)
 rw [← z8l hz] at h
 exact h
theorem z7c {G : Mem} : Fp G 142 #[] (stB []) := by
 rw [← zhB]; exact z7V
theorem z5c (v : Value) (l : LN) (hv : Sh (DOR :: G) v l) (hlb : By l) (hz : l.length ≤ 1073741824) : Fp (DOR :: G) 90 #[v] (.agg (arr .u8 32 (XA l))) := by
 refine Qf1 Tryz.func90 ?_
 refine (g4)<|(QH 0) fun r1=>(gg) ?_
 refine (Ca z7c)<|(Qm) ?_
 refine (Ca (z5X [] v l (by simp) hv hlb (by simpa using hz))) ?_
 refine (Av (stB l)) ?_
 refine (Ca (z6g l hlb hz))<|(Qt 0)<|Qn<|Qr ?_
 exact ⟨_, rfl, ya 0⟩
theorem z6Z (v : Value) (vs : List Value) (ls : List (LN)) (hv : Shows G 1 v vs.length vs) (hL : z1t G vs ls) (hn : vs.length ≤ 1099511627776) (hm : ls.flatten.length ≤ 1099511627776) : Fq G [] 178 #[v] (fun v l1 nw => l1 = [] ∧ ∃ v', v = v' ∧ OwnS 5 1 v' ls.flatten.length (ls.flatten.map by8) nw) := by
 have hvl := hL.1
 have hup := z9K ls
 refine QfN Tryz.func178 ?_
 refine (gb)<|(gb)<|(gc)<|(QC hv)<|(Qm)<|Qn<|Qb ?_
 refine QzK [(2, _), (6, _), (7, _)] [] (fun kk E m => ∃ (j : Nat) (w : Value) (oz : Option Blk), kk = vs.length - j ∧ E = [(3, w), (8, ii j)] ∧ m = [(50, oz)] ∧ (j ≤ vs.length) ∧ (OwnS 5 1 w (Yw ls j).length ((Yw ls j).map by8) (Option.toList oz))) ⟨0, zV, none, rfl, rfl, rfl, by omega, (ym _ _)⟩ ⟨rfl, rfl, rfl, rfl, rfl, trivial⟩ ⟨rfl, trivial⟩ ?_
 rintro kk E m ⟨j, w, oz, rfl, rfl, rfl, hf0_0, hf0_1⟩
 simp only [zB, zA]
 have hs3 := hup (j + 1)
 have hs4 : j < ls.length → (Yw ls (j + 1)).length = (Yw ls j).length + (ls.getD j []).length := fun h => by rw [wk h, List.length_append]
 refine (gt) ?_
 refine (Qcd) (fun hc0=>?_) fun hc0=>?_
 ·have hc0 : j < vs.length := by omega
  refine Qk<|Qs<|Qb<|(g4) ?_
  refine xf hv (Uu 197) (Uz 22) rfl rfl (by omega) rfl ?_
  refine (QS) ?_
  refine yc hv zo (Uu 22) rfl rfl (xU (by omega)) rfl ?_
  refine (g3)<|Qp<|(ga) ?_
  refine x9 50 hf0_1 (hL.2 j (by omega)) rfl zo (Uu 22) (Uz 5) (Uy 5) (Ub 5) (by rfl) rfl rfl Yh (by have := hs4 (by omega); simp only [maxLen]; omega) (by have := hs4 (by omega); omega) rfl fun v2_1 oz2_1 ho2_1 => ?_
  refine (g3)<|(go) ?_
  refine QzL ⟨j + 1, _, _, rfl, rfl, rfl, by omega, (zw ho2_1 (by rw [wk (by omega), List.length_append]) (by rw [wk (by omega), List.map_append]))⟩ ⟨rfl, rfl, rfl, rfl, rfl, trivial⟩ ⟨rfl, trivial⟩ ?_
  omega
 ·have hz0 : j = vs.length := by omega
  refine Qe<|(g5)<|(gh) ?_
  exact ⟨_, _, _, 50, rfl, yt, (zw hf0_1 (by rw [hz0, hvl, Wv]) (by rw [hz0, hvl, Wv])), rfl⟩
theorem z1d (p : LN) (x : Nat) (hp : p.length = 64) : Fq G [] 227 #[.agg (arr .u8 64 (fun j => p.getD j 0)), by8 x] (fun v l1 nw => l1 = [] ∧ ∃ v', v = v' ∧ OwnS 267 1 v' 64 ((Xu p x).map by8) nw) := by
 refine QfN Tryz.func227 ?_
 refine (g4)<|(Qh 0) fun r1=>(gx)<|Qn<|Qb ?_
 refine QzK [(1, _), (2, _), (4, _)] [] (fun kk E m => ∃ (i : Nat) (s : Nat → Nat), kk = 64 - i ∧ E = [(6, ii i)] ∧ m = [(0, some ⟨r1, arr .u8 64 s, 267⟩)] ∧ (i ≤ 64) ∧ (∀ t, t < 64 → s t = if t < i then (p.getD t 0 ^^^ x) % 256 else p.getD t 0)) ⟨0, (fun j => p.getD j 0), rfl, rfl, rfl, by omega, zbE (k := fun j => p.getD j 0)⟩ ⟨rfl, rfl, rfl, rfl, trivial⟩ ⟨rfl, trivial⟩ ?_
 rintro kk E m ⟨i, s, rfl, rfl, rfl, hf0_0, hf0_1⟩
 simp only [zB, zA]
 refine (gt) ?_
 refine (Qcd) (fun hc0=>?_) fun hc0=>?_
 ·have hc0 : i < 64 := by omega
  refine Qk<|Qs<|Qb<|(g5)<|(g3)<|Qp<|(Qm)<|(gq)<|(Qm) ?_
  refine z05 rfl rfl rfl  ?_
  refine (Qi)<|(Qu 0)<|Qn<|(go) ?_
  refine QzL ⟨i + 1, upd s i _, rfl, rfl, rfl, by omega, (ze8 (k := fun j => p.getD j 0) hf0_1 (by omega) rfl)⟩ ⟨rfl, rfl, rfl, rfl, trivial⟩ ⟨rfl, trivial⟩ ?_
  omega
 ·have hz0 : i = 64 := by omega
  subst hz0
  refine Qe<|(g4)<|(Qsa 0 64)<|(gh) ?_
  exact ⟨_, _, _, 0, rfl, yt, (YH ((wG p x).trans hp) (by decide) (zgp hp hf0_1)), rfl⟩
theorem zbY (v : Value) (k : LN) (hv : Sh (DOR :: G) v k) (hb : By k) (hz : k.length ≤ 1073741824) (hkl : 64 < k.length) : Fp (DOR :: G) 226 #[v] (.agg (arr .u8 64 (fun j => (z2h k).getD j 0))) := by
 have hmk : z7j k = (bsl k) := if_pos hkl
 have hkle := z4b k
 rw [hmk] at hkle
 refine Qf1 Tryz.func226 ?_
 refine (g4)<|(QH 0) fun r1=>(gg)<|(QH 1) fun r2=>Qn<|(gc)<|(QC hv)<|(QG)<|(Qat)<|Qn<|(Qct)<|(g5) ?_
 refine (Ca (z5c v k hv hb hz))<|(QH 2) fun r3=>(Qt 2)<|Qn<|Qp<|(Qsa 0 32)<|(g3)<|(g4)<|(Qsa 0 64)<|(Qm) ?_
 refine z9c (i := 1) (Uu 22) (Uz 5) (show Shows _ 1 _ (bsl k).length ((bsl k).map by8) from xh _ (XA k) _) (zY 2 rfl ⟨[], trivial⟩) rfl rfl rfl (by omega) rfl ?_
 refine (gg)<|(Qd 1) ?_
 refine (Aa (zd2 hmk hkle rfl))<|(Qt 0)<|Qn<|Qr ?_
 exact ⟨_, rfl, ya 0⟩
theorem z7p (v : Value) (k : LN) (hv : Sh (DOR :: G) v k) (hkl : ¬ 64 < k.length) : Fp (DOR :: G) 226 #[v] (.agg (arr .u8 64 (fun j => (z2h k).getD j 0))) := by
 have hmk : z7j k = k := if_neg hkl
 have hkle := z4b k
 rw [hmk] at hkle
 refine Qf1 Tryz.func226 ?_
 refine (g4)<|(QH 0) fun r1=>(gg)<|(QH 1) fun r2=>Qn<|(gc)<|(QC hv)<|(QG)<|(Qaf)<|(gp)<|(g4)<|(Qsa 0 64)<|(Qm) ?_
 refine z9c (i := 1) (Uu 22) (Uz 5) hv zo rfl rfl rfl (by omega) rfl ?_
 refine (gg)<|(Qd 1) ?_
 refine (Aa (zd2 hmk hkle rfl))<|(Qt 0)<|Qn<|Qr ?_
 exact ⟨_, rfl, ya 0⟩
theorem Wd {G : Mem} (r : Nat) (v1 v2 : Value) (a b : LN) (h1 : Sh G v1 a) (h2 : Sh G v2 b) (hr : (⟨r, [v1, v2].toArray, 22⟩ : Blk) ∈ G) (hm : a.length + b.length ≤ 1099511627776) :
  Fx Tryz.prog G [] 178 #[.slice (some ⟨r, 0, none⟩) 2 2] (fun v l1 nw => l1 = [] ∧ ∃ v', v = v' ∧ OwnS 5 1 v' (a ++ b).length ((a ++ b).map by8) nw) := by
 have h := z6Z (G := G) (.slice (some ⟨r, 0, none⟩) 2 2) [v1, v2] [a, b] ((yX (r := r) (len := 2) (z := 1) [v1, v2].toArray 22 rfl).mono (fun x hx => by simp at hx; subst hx; exact hr)) (yL h1 (yL h2 (XM _))) (Nat.le_of_ble_eq_true rfl) (by simp; omega)
 have e : [a, b].flatten = a ++ b := by simp
 rw [e] at h
 exact h
theorem ziV {G : Mem} (v : Value) (k : LN) (hv : Sh (DOR :: G) v k) (hb : By k) (hz : k.length ≤ 1073741824) : Fp (DOR :: G) 226 #[v] (.agg (arr .u8 64 (fun j => (z2h k).getD j 0))) := by
 by_cases h : 64 < k.length
 ·exact zbY v k hv hb hz h
 ·exact z7p v k hv h
theorem z9p {G X : Mem} (v : Value) (l : LN) (hv : Sh X v l) (hlb : By l) (hz : l.length ≤ 1073741824) : Fp ((DOR :: G) ++ X) 90 #[v] (.agg (arr .u8 32 (XA l))) :=
 z5c (G := G ++ X) v l (hv.mono fun _ h => List.mem_cons_of_mem _ (List.mem_append_right _ h)) hlb hz
theorem zgP {p s : LN} {c : Nat} (h : By s) : ∀ b ∈ Xu p c ++ s, b < 256 := fun b hb => (List.mem_append.1 hb).elim (zjY p c b) (h b)
theorem zeH (vk vs : Value) (k s : LN) (hvk : Sh (DOR :: G) vk k) (hvs : Sh (DOR :: G) vs s) (hk : By k) (hb : By s) (hkm : k.length ≤ 1073741824) (hs : s.length ≤ 1073741760) : Fp (DOR :: G) 177 #[vk, vs] (.agg (arr .u8 32 (mac k s))) := by
 obtain ⟨P, hPe⟩ : ∃ P, P = z2h k := ⟨_, rfl⟩
 have hP : P.length = 64 := by rw [hPe]; exact zf5 k
 have hFit := ziV (G := G) vk k hvk hk hkm
 rw [← hPe] at hFit
 obtain ⟨g, hg⟩ : ∃ g, g = XA (Xu P 54 ++ s) := ⟨_, rfl⟩
 have hgl : bsl (Xu P 54 ++ s) = (List.range 32).map g := by rw [hg]; rfl
 have hmc : XA (Xu P 92 ++ (List.range 32).map g) = mac k s := by rw [← hgl, hPe]; rfl
 have hgb : ∀ b ∈ (List.range 32).map g, b < 256 := by rw [← hgl]; exact zl9 _
 have hg32 : ((List.range 32).map g).length = 32 := by simp
 have hx5 := wG P 54
 have hx9 := wG P 92
 refine Qf1 Tryz.func177 ?_
 refine (g4)<|(QH 0) fun r1=>Qn<|(g5) ?_
 refine (Ca hFit)<|(QH 1) fun r2=>(Qt 1)<|Qn<|Qs<|QR ⟨[], 4, [], none, none⟩<|(Qd 1) ?_
 refine zK 2 (fun v => v) rfl rfl (Un 227) zo (z1d P 54 hP) (by decide) (by rw [List.length_map, wG, hP]) rfl rfl fun v1_1 oz1_1 ho1_1 => ?_
 refine (Qm) ?_
 refine zu 3 [v1_1, vs].toArray (Uu 197 rfl) (Uz 22 rfl) (Ub 22 rfl) (by decide) (by decide) rfl (wX [v1_1, vs] 0 _ (by intro v hv; simp only [List.mem_cons, List.not_mem_nil, or_false] at hv; rcases hv with rfl | rfl; exact (xA ho1_1.shows); exact (xA hvs)) (by simp)) rfl fun r4 => ?_
 refine zK 4 (fun v => v) rfl rfl (Un 178) (zh zo (zh (xF 2 rfl ⟨[], trivial⟩) (zY 3 rfl ⟨[], trivial⟩))) (Wd (G := ((DOR :: G) ++ (oz1_1.toList ++ [(⟨r4, [v1_1, vs].toArray, 22⟩ : Blk)]))) r4 v1_1 vs (Xu P 54) s (Shows.mono (yM ho1_1) (fun x h => (List.mem_append_right _ (List.mem_append_left _ h)))) (Shows.mono hvs (fun x h => (List.mem_append_left _ h))) (List.mem_append_right _ (List.mem_append_right _ (List.mem_singleton.2 rfl))) (by rw [wG]; omega)) (by rw [List.length_append]; simp only [maxLen]; omega) (by rw [List.length_map, Nat.mul_one]) rfl rfl fun v1_2 oz1_2 ho1_2 => ?_
 refine zD rfl rfl (Un 90) (zh zo (xF 4 rfl ⟨[], trivial⟩)) (z9p (G := G) (X := oz1_2.toList) v1_2 (Xu P 54 ++ s) (yM ho1_2) (zgP hb) (by rw [List.length_append, wG]; omega)) rfl rfl ?_
 refine (Af hg.symm)<|(QH 5) fun r6=>(Qt 5)<|Qn<|Qs<|(Qq ⟨[], 4, [], none, none⟩)<|(Qd 1) ?_
 refine zK 6 (fun v => v) rfl rfl (Un 227) zo (z1d P 92 hP) (by decide) (by rw [List.length_map, wG, hP]) rfl rfl fun v1_3 oz1_3 ho1_3 => ?_
 refine (Qsa 0 32) ?_
 refine zu 7 [v1_3, (.slice (some ⟨r6, 0, none⟩) 32 32)].toArray (Uu 197 rfl) (Uz 22 rfl) (Ub 22 rfl) (by decide) (by decide) rfl (wX [v1_3, (.slice (some ⟨r6, 0, none⟩) 32 32)] 0 _ (by intro v hv; simp only [List.mem_cons, List.not_mem_nil, or_false] at hv; rcases hv with rfl | rfl; exact (xA ho1_3.shows); exact rfl) (by simp)) rfl fun r8 => ?_
 refine zK 8 (fun v => v) rfl rfl (Un 178) (zh zo (zh (xF 6 rfl ⟨[], trivial⟩) (zh (zY 5 rfl ⟨[], trivial⟩) (zY 7 rfl ⟨[], trivial⟩)))) (Wd (G := ((DOR :: G) ++ (oz1_3.toList ++ ([(⟨r6, arr .u8 32 g, 30⟩ : Blk)] ++ [(⟨r8, [v1_3, (.slice (some ⟨r6, 0, none⟩) 32 32)].toArray, 22⟩ : Blk)])))) r8 v1_3 (.slice (some ⟨r6, 0, none⟩) 32 32) (Xu P 92) ((List.range 32).map g) (Shows.mono (yM ho1_3) (fun x h => (List.mem_append_right _ (List.mem_append_left _ h)))) (Shows.mono (xh r6 g 30) (fun x h => (List.mem_append_right _ (List.mem_append_right _ (List.mem_append_left _ h))))) (List.mem_append_right _ (List.mem_append_right _ (List.mem_append_right _ (List.mem_singleton.2 rfl)))) (by rw [wG]; omega)) (by rw [List.length_append]; simp only [maxLen]; omega) (by rw [List.length_map, Nat.mul_one]) rfl rfl fun v1_4 oz1_4 ho1_4 => ?_
 refine zD rfl rfl (Un 90) (zh zo (xF 8 rfl ⟨[], trivial⟩)) (z9p (G := G) (X := oz1_4.toList) v1_4 (Xu P 92 ++ (List.range 32).map g) (yM ho1_4) (zgP hgb) (by rw [List.length_append, wG]; omega)) rfl rfl ?_
 refine (Af hmc)<|(Qt 0)<|Qn<|Qr ?_
 exact ⟨_, rfl, ya 0⟩
theorem z8e (a b c : NN) : Instr.fill (fun i => some (i * 32, 32)) (arr .u8 96 fun _ => 0) [(0, .agg (arr .u8 32 a)), (1, .agg (arr .u8 32 b)), (2, .agg (arr .u8 32 c))] = some (arr .u8 96 (YL a b c)) := by kernel_rfl
theorem XW {G X : Mem} (vk vs : Value) (k s : LN) (hvk : Shows ((DOR :: G) ++ X) 1 vk k.length (k.map by8)) (hvs : Shows ((DOR :: G) ++ X) 1 vs s.length (s.map by8)) (hk : By k) (hb : By s) (hkm : k.length ≤ 1073741824) (hs : s.length ≤ 1073741760) : Fp ((DOR :: G) ++ X) 177 #[vk, vs] (.agg (arr .u8 32 (mac k s))) :=
 zeH (G := G ++ X) vk vs k s hvk hvs hk hb hkm hs
theorem z1A (r x : Nat) (t : TypeId) : Shows [⟨r, #[by8 x], t⟩] 1 (.slice (some ⟨r, 0, none⟩) 1 1) [x].length ([x].map by8) := yX (r := r) (len := 1) (z := 1) #[by8 x] t rfl
theorem zcU (a b : NN) : Instr.fill (fun i => some (i * 32, 32)) (arr .u8 64 fun _ => 0) [(0, .agg (arr .u8 32 a)), (1, .agg (arr .u8 32 b))] = some (arr .u8 64 (z7l a b)) := by kernel_rfl
theorem zef (a b c : NN) : ∀ j, j < 32 → YL a b c (0 + j) = a j := fun j hj => by rw [Nat.zero_add, YL, if_pos hj]
theorem zes (a b c : NN) : ∀ j, j < 32 → YL a b c (32 + j) = b j := fun j hj => by rw [YL, if_neg (by omega), if_pos (by omega), Nat.add_sub_cancel_left]
theorem z2D (c : NN) (v : Value) (s : LN) (hc : L8 32 c) (hv : Sh (DOR :: G) v s) (hb : By s) (hs : s.length ≤ 1073741760) : Fp (DOR :: G) 128 #[.agg (arr .u8 32 c), v] (.agg (arr .u8 96 (YL (kA c s) (kB c s) (kC c s)))) := by
 obtain ⟨f, hf⟩ : ∃ f, f = mac ((List.range 32).map c) s := ⟨_, rfl⟩
 have hT : kT c s = ((List.range 32).map f) := by rw [hf]; rfl
 have hfb : ∀ b ∈ ((List.range 32).map f), b < 256 := by rw [← hT]; exact znI c s
 obtain ⟨fA, hA⟩ : ∃ x, x = kA c s := ⟨_, rfl⟩
 obtain ⟨fB, hB⟩ : ∃ x, x = kB c s := ⟨_, rfl⟩
 obtain ⟨fC, hC⟩ : ∃ x, x = kC c s := ⟨_, rfl⟩
 have eA : mac ((List.range 32).map f) [1] = fA := by rw [hA, kA, hT]
 have eB : mac ((List.range 32).map f) (((List.range 32).map fA) ++ [2]) = fB := by rw [hB, kB, hT, hA]
 have eC : mac ((List.range 32).map f) (((List.range 32).map fB) ++ [3]) = fC := by rw [hC, kC, hT, hB]
 have hfAb : ∀ b ∈ ((List.range 32).map fA), b < 256 := by rw [hA]; exact wB fun _ _ => XN _ _ _
 have hfBb : ∀ b ∈ ((List.range 32).map fB), b < 256 := by rw [hB]; exact wB fun _ _ => XN _ _ _
 rw [← hA, ← hB, ← hC]
 refine Qf1 Tryz.func128 ?_
 refine (g4)<|(Qh 0) fun r1=>(QH 1) fun r2=>(gg)<|(Qsa 0 32)<|(Qm) ?_
 refine zD rfl rfl (Un 177) (zh zo (zY 0 rfl ⟨[], trivial⟩)) (XW (G := G) (X := [(⟨r1, arr .u8 32 c, 30⟩ : Blk)]) (.slice (some ⟨r1, 0, none⟩) 32 32) v ((List.range 32).map c) s (Shows.mono (xh r1 c 30) (fun x h => List.mem_append_right _ h)) (Shows.mono hv (fun x h => List.mem_append_left _ h)) (wB hc) hb (by simp) hs) rfl rfl ?_
 refine (Af hf.symm)<|(QH 2) fun r3=>(Qt 2)<|(gg)<|(Qsa 0 32) ?_
 refine zu 3 #[by8 1] (Uu 22 rfl) (Uz 5 rfl) (Ub 5 rfl) (by decide) (by decide) rfl (by kernel_rfl) rfl fun r4 => ?_
 refine zD rfl rfl (Un 177) (zh zo (zh (zY 2 rfl ⟨[], trivial⟩) (zY 3 rfl ⟨[], trivial⟩))) (XW (G := G) (X := ([(⟨r3, arr .u8 32 f, 30⟩ : Blk)] ++ [(⟨r4, #[by8 1], 5⟩ : Blk)])) (.slice (some ⟨r3, 0, none⟩) 32 32) (.slice (some ⟨r4, 0, none⟩) 1 1) ((List.range 32).map f) [1] (Shows.mono (xh r3 f 30) (fun x h => List.mem_append_right _ (List.mem_append_left _ h))) (Shows.mono (z1A r4 1 5) (fun x h => List.mem_append_right _ (List.mem_append_right _ h))) hfb (by decide) (by simp) (by decide)) rfl rfl ?_
 refine (Af eA)<|(QH 4) fun r5=>(Qt 4)<|Qn<|Qs<|(Qq ⟨[], 4, [], none, none⟩)<|(Qsa 0 32)<|(Qsa 0 32) ?_
 refine zu 5 #[by8 2] (Uu 22 rfl) (Uz 5 rfl) (Ub 5 rfl) (by decide) (by decide) rfl (by kernel_rfl) rfl fun r6 => ?_
 refine zu 6 [(.slice (some ⟨r5, 0, none⟩) 32 32), (.slice (some ⟨r6, 0, none⟩) 1 1)].toArray (Uu 197 rfl) (Uz 22 rfl) (Ub 22 rfl) (by decide) (by decide) rfl (wX [(.slice (some ⟨r5, 0, none⟩) 32 32), (.slice (some ⟨r6, 0, none⟩) 1 1)] 0 _ (by intro v hv; simp only [List.mem_cons, List.not_mem_nil, or_false] at hv; rcases hv with rfl | rfl; exact rfl; exact rfl) (by simp)) rfl fun r7 => ?_
 refine zK 7 (fun v => v) rfl rfl (Un 178) (zh zo (zh (zY 4 rfl ⟨[], trivial⟩) (zh (zY 5 rfl ⟨[], trivial⟩) (zY 6 rfl ⟨[], trivial⟩)))) (Wd (G := ((DOR :: G) ++ ([(⟨r5, arr .u8 32 fA, 30⟩ : Blk)] ++ ([(⟨r6, #[by8 2], 5⟩ : Blk)] ++ [(⟨r7, [(.slice (some ⟨r5, 0, none⟩) 32 32), (.slice (some ⟨r6, 0, none⟩) 1 1)].toArray, 22⟩ : Blk)])))) r7 (.slice (some ⟨r5, 0, none⟩) 32 32) (.slice (some ⟨r6, 0, none⟩) 1 1) ((List.range 32).map fA) [2] (Shows.mono (xh r5 fA 30) (fun x h => (List.mem_append_right _ (List.mem_append_left _ h)))) (Shows.mono (z1A r6 2 5) (fun x h => (List.mem_append_right _ (List.mem_append_right _ (List.mem_append_left _ h))))) (List.mem_append_right _ (List.mem_append_right _ (List.mem_append_right _ (List.mem_singleton.2 rfl)))) (by simp)) (by simp [maxLen]) (by rw [List.length_map, Nat.mul_one]) rfl rfl fun v1_1 oz1_1 ho1_1 => ?_
 refine zD rfl rfl (Un 177) (zh zo (zh (zY 2 rfl ⟨[], trivial⟩) (xF 7 rfl ⟨[], trivial⟩))) (XW (G := G) (X := ([(⟨r3, arr .u8 32 f, 30⟩ : Blk)] ++ oz1_1.toList)) (.slice (some ⟨r3, 0, none⟩) 32 32) v1_1 ((List.range 32).map f) (((List.range 32).map fA) ++ [2]) (Shows.mono (xh r3 f 30) (fun x h => List.mem_append_right _ (List.mem_append_left _ h))) (Shows.mono (yM ho1_1) (fun x h => List.mem_append_right _ (List.mem_append_right _ h))) hfb (zcW hfAb (by decide)) (by simp) (by simp)) rfl rfl ?_
 refine (Af eB)<|(QH 8) fun r9=>(Qt 8)<|Qn<|Qs<|(Qq ⟨[], 4, [], none, none⟩)<|(Qsa 0 32)<|(Qsa 0 32) ?_
 refine zu 9 #[by8 3] (Uu 22 rfl) (Uz 5 rfl) (Ub 5 rfl) (by decide) (by decide) rfl (by kernel_rfl) rfl fun r10 => ?_
 refine zu 10 [(.slice (some ⟨r9, 0, none⟩) 32 32), (.slice (some ⟨r10, 0, none⟩) 1 1)].toArray (Uu 197 rfl) (Uz 22 rfl) (Ub 22 rfl) (by decide) (by decide) rfl (wX [(.slice (some ⟨r9, 0, none⟩) 32 32), (.slice (some ⟨r10, 0, none⟩) 1 1)] 0 _ (by intro v hv; simp only [List.mem_cons, List.not_mem_nil, or_false] at hv; rcases hv with rfl | rfl; exact rfl; exact rfl) (by simp)) rfl fun r11 => ?_
 refine zK 11 (fun v => v) rfl rfl (Un 178) (zh zo (zh (zY 8 rfl ⟨[], trivial⟩) (zh (zY 9 rfl ⟨[], trivial⟩) (zY 10 rfl ⟨[], trivial⟩)))) (Wd (G := ((DOR :: G) ++ ([(⟨r9, arr .u8 32 fB, 30⟩ : Blk)] ++ ([(⟨r10, #[by8 3], 5⟩ : Blk)] ++ [(⟨r11, [(.slice (some ⟨r9, 0, none⟩) 32 32), (.slice (some ⟨r10, 0, none⟩) 1 1)].toArray, 22⟩ : Blk)])))) r11 (.slice (some ⟨r9, 0, none⟩) 32 32) (.slice (some ⟨r10, 0, none⟩) 1 1) ((List.range 32).map fB) [3] (Shows.mono (xh r9 fB 30) (fun x h => (List.mem_append_right _ (List.mem_append_left _ h)))) (Shows.mono (z1A r10 3 5) (fun x h => (List.mem_append_right _ (List.mem_append_right _ (List.mem_append_left _ h))))) (List.mem_append_right _ (List.mem_append_right _ (List.mem_append_right _ (List.mem_singleton.2 rfl)))) (by simp)) (by simp [maxLen]) (by rw [List.length_map, Nat.mul_one]) rfl rfl fun v1_2 oz1_2 ho1_2 => ?_
 refine zD rfl rfl (Un 177) (zh zo (zh (zY 2 rfl ⟨[], trivial⟩) (xF 11 rfl ⟨[], trivial⟩))) (XW (G := G) (X := ([(⟨r3, arr .u8 32 f, 30⟩ : Blk)] ++ oz1_2.toList)) (.slice (some ⟨r3, 0, none⟩) 32 32) v1_2 ((List.range 32).map f) (((List.range 32).map fB) ++ [3]) (Shows.mono (xh r3 f 30) (fun x h => List.mem_append_right _ (List.mem_append_left _ h))) (Shows.mono (yM ho1_2) (fun x h => List.mem_append_right _ (List.mem_append_right _ h))) hfb (zcW hfBb (by decide)) (by simp) (by simp)) rfl rfl ?_
 refine (Af eC)<|(QH 12) fun r13=>(Qt 12)<|(gg)<|(Qd 4)<|(Qd 8)<|(Qd 12) ?_
 refine wC (arr .u8 96 (YL fA fB fC)) (Ub 101 rfl) (Uu 101 rfl) (Uz 30 rfl) rfl (z8e fA fB fC) rfl ?_
 refine (Qt 1)<|Qn<|Qr ?_
 exact ⟨_, rfl, ya 1⟩
theorem zal (c : NN) (v : Value) (s : LN) (hc : L8 32 c) (hv : Sh (DOR :: G) v s) (hb : By s) (hs : s.length ≤ 1073741760) : Fp (DOR :: G) 80 #[.agg (arr .u8 32 c), v] (.agg (arr .u8 64 (z7l (kA c s) (kB c s)))) := by
 have h3 := z2D (G := G) c v s hc hv hb hs
 obtain ⟨fA, hA⟩ : ∃ x, x = kA c s := ⟨_, rfl⟩
 obtain ⟨fB, hB⟩ : ∃ x, x = kB c s := ⟨_, rfl⟩
 obtain ⟨fC, hC⟩ : ∃ x, x = kC c s := ⟨_, rfl⟩
 rw [← hA, ← hB, ← hC] at h3
 rw [← hA, ← hB]
 refine Qf1 Tryz.func80 ?_
 refine (g4)<|(Qh 0) fun r1=>(QH 1) fun r2=>(gg)<|(Qd 0)<|(Qm) ?_
 refine (Ca h3)<|(QH 2) fun r3=>(Qt 2)<|(gg)<|(QA 0 0)<|(Qls 2) ?_
 refine (Aa (zef fA fB fC))<|(QA 32 1)<|(Qls 2) ?_
 refine (Aa (zes fA fB fC)) ?_
 refine wC (arr .u8 64 (z7l fA fB)) (Ub 118 rfl) (Uu 118 rfl) (Uz 30 rfl) rfl (zcU fA fB) rfl ?_
 refine (Qt 1)<|Qn<|Qr ?_
 exact ⟨_, rfl, ya 1⟩
theorem zep {G : Mem} (r : Nat) (v1 v2 : Value) (a b : LN) (h1 : Sh G v1 a) (h2 : Sh G v2 b) (hr : (⟨r, [v1, v2].toArray, 22⟩ : Blk) ∈ G) (hm : a.length + b.length ≤ 1099511627776) :
  Fx Tryz.prog G [] 91 #[.slice (some ⟨r, 0, none⟩) 2 2] (fun v l1 nw => l1 = [] ∧ ∃ v', v = v' ∧ OwnS 5 1 v' (a ++ b).length ((a ++ b).map by8) nw) := by
 have h := z3i (G := G) (.slice (some ⟨r, 0, none⟩) 2 2) [v1, v2] [a, b] ((yX (r := r) (len := 2) (z := 1) [v1, v2].toArray 22 rfl).mono (fun x hx => by simp at hx; subst hx; exact hr)) (yL h1 (yL h2 (XM _))) (Nat.le_of_ble_eq_true rfl) (by simp; omega)
 have e : [a, b].flatten = a ++ b := by simp
 rw [e] at h
 exact h
theorem zaj (a b : NN) : ∀ j, j < 32 → z7l a b (0 + j) = a j := fun j hj => by rw [Nat.zero_add, z7l, if_pos hj]
theorem zaa (a b : NN) : ∀ j, j < 32 → z7l a b (32 + j) = b j := fun j hj => by rw [z7l, if_neg (by omega), Nat.add_sub_cancel_left]
theorem z7L (r : Nat) (a b c : NN) (t : TypeId) : Shows [⟨r, arr .u8 96 (YL a b c), t⟩] 1 (.slice (some ⟨r, 32, none⟩) 32 32) ((List.range 32).map b).length (((List.range 32).map b).map by8) := by
 have h := WK r 96 (YL a b c) t 32 32 32 (by decide) (by decide)
 have e : (List.range 32).map (fun j => YL a b c (32 + j)) = (List.range 32).map b := List.map_congr_left fun j hj => zkP a b c j (List.mem_range.1 hj)
 rw [e] at h
 exact h
theorem zbT (l : LN) (hb : By l) (h : ¬ 32 < l.length) : Fp (DOR :: G) 56 #[sv l] (.agg (arr .u8 32 (WI l))) := by
 obtain ⟨g, hg⟩ : ∃ g, g = WI l := ⟨_, rfl⟩
 rw [← hg]
 refine Qf1 Tryz.func56 ?_
 refine (g4)<|(QH 0) fun r1=>(gg)<|(QH 1) fun r2=>Qn<|(gc)<|(QU)<|(QG)<|(Qaf)<|(gp)<|(g4)<|(Qsa 0 32)<|(Qm) ?_
 refine zbH (i := 1) (Uu 22) (Uz 5) rfl rfl hb rfl (by omega) rfl ?_
 refine (gg)<|(Qd 1) ?_
 refine (Aa (fun j hj => (zjZ l j hj).trans (show l.getD j 0 = g j by rw [hg, z88 h])))<|(Qt 0)<|Qn<|Qr ?_
 exact ⟨_, rfl, ya 0⟩
theorem zdQ (l : LN) (hb : By l) (h : 32 < l.length) (hz : l.length ≤ 1073741824) : Fp (DOR :: G) 56 #[sv l] (.agg (arr .u8 32 (WI l))) := by
 obtain ⟨g, hg⟩ : ∃ g, g = WI l := ⟨_, rfl⟩
 rw [← hg]
 refine Qf1 Tryz.func56 ?_
 refine (g4)<|(QH 0) fun r1=>(gg)<|(QH 1) fun r2=>Qn<|(gc)<|(QU)<|(QG)<|(Qat)<|Qn<|(Qct)<|Qs<|QR ⟨[], 1, [22], none, none⟩<|(Qm) ?_
 refine Y1 2 (Uu 9) (Uu 22) (Uu 5) rfl hb (by simp only [maxLen]; omega) rfl rfl fun v2_1 oz2_1 ho2_1 => ?_
 refine zD rfl rfl (Un 90) (zh zo (xF 2 rfl ⟨[], trivial⟩)) (z9p (G := G) (X := oz2_1.toList) _ l (yM ho2_1) hb hz) rfl rfl ?_
 refine (Af (show XA l = g by rw [hg, zcL h]))<|(Qt 0)<|Qn<|Qr ?_
 exact ⟨_, rfl, ya 0⟩
theorem z7U (h : NN) (v : Value) (l : LN) (hh : L8 32 h) (hv : Sh (DOR :: G) v l) (hb : By l) (hz : l.length ≤ 1073741792) : Fp (DOR :: G) 55 #[.agg (arr .u8 32 h), v] (.agg (arr .u8 32 (hx h l))) := by
 refine Qf1 Tryz.func55 ?_
 refine (g4)<|(Qh 0) fun r1=>(QH 1) fun r2=>Qn<|Qs<|QR ⟨[], 4, [], none, none⟩<|(Qsa 0 32)<|(Qm) ?_
 refine zu 2 [(.slice (some ⟨r1, 0, none⟩) 32 32), v].toArray (Uu 197 rfl) (Uz 22 rfl) (Ub 22 rfl) (by decide) (by decide) rfl (wX [(.slice (some ⟨r1, 0, none⟩) 32 32), v] 0 _ (by intro v hv; simp only [List.mem_cons, List.not_mem_nil, or_false] at hv; rcases hv with rfl | rfl; exact rfl; exact (xA hv)) (by simp)) rfl fun r3 => ?_
 refine zK 3 (fun v => v) rfl rfl (Un 91) (zh zo (zh (zY 0 rfl ⟨[], trivial⟩) (zY 2 rfl ⟨[], trivial⟩))) (zep (G := ((DOR :: G) ++ ([(⟨r1, arr .u8 32 h, 30⟩ : Blk)] ++ [(⟨r3, [(.slice (some ⟨r1, 0, none⟩) 32 32), v].toArray, 22⟩ : Blk)]))) r3 (.slice (some ⟨r1, 0, none⟩) 32 32) v ((List.range 32).map h) l (Shows.mono (xh r1 h 30) (fun x h => (List.mem_append_right _ (List.mem_append_left _ h)))) (Shows.mono hv (fun x h => (List.mem_append_left _ h))) (List.mem_append_right _ (List.mem_append_right _ (List.mem_singleton.2 rfl))) (by simp; omega)) (by simp [maxLen]; omega) (by rw [List.length_map, Nat.mul_one]) rfl rfl fun v1_1 oz1_1 ho1_1 => ?_
 refine zD rfl rfl (Un 90) (zh zo (xF 3 rfl ⟨[], trivial⟩)) (z9p (G := G) (X := oz1_1.toList) v1_1 (((List.range 32).map h) ++ l) (yM ho1_1) (zjW (wB hh) hb) (by simp; omega)) rfl rfl ?_
 refine (Qt 1)<|Qn<|Qr ?_
 exact ⟨_, rfl, ya 1⟩
theorem zmm {G : Mem} (l : LN) (hb : By l) (hz : l.length ≤ 1073741824) : Fp (DOR :: G) 56 #[sv l] (.agg (arr .u8 32 (WI l))) := by
 by_cases h : 32 < l.length
 ·exact zdQ l hb h hz
 ·exact zbT l hb h
theorem z0D (l : LN) (hb : By l) (hz : l.length ≤ 1073741824) : Fp (DOR :: G) 26 #[sv l] (.agg (zr 98 [pV (.bool false), pI .u8 32 (fun _ => 0), pV (.int .u64 0), pI .u8 32 (WI l), pI .u8 32 (WI l)])) := by
 have hF := zmm (G := G) l hb hz
 obtain ⟨g, hg⟩ : ∃ g, g = WI l := ⟨_, rfl⟩
 rw [← hg] at hF ⊢
 refine Qf1 Tryz.func26 ?_
 refine (g4)<|(QH 0) fun r1=>Qn<|(g5) ?_
 refine (Ca hF)<|(QH 1) fun r2=>(Qt 1)<|(gg)<|(Qd 1)<|(Qd 1) ?_
 refine yn (zr 98 [pV (.bool false), pI .u8 32 (fun _ => 0), pV (.int .u64 0), pI .u8 32 g, pI .u8 32 g]) (Ub 35 rfl) (Uu 35 rfl) zdm rfl (by kernel_rfl) rfl ?_
 refine (QW 0)<|Qn<|Qr ?_
 exact ⟨_, rfl, yb 0⟩
theorem WV (has : Bool) (k : NN) (n : Nat) (ch h : NN) (v : Value) (l : LN) (hv : Sh (DOR :: G) v l) (hb : By l) (hh : L8 32 h) (hz : l.length ≤ 1073741792) : Fp (DOR :: G) 25 #[SV has k n ch h, v] (SV has k n ch (hx h l)) := by
 have hB := z7U (G := G) h v l hh hv hb hz
 obtain ⟨g, hg⟩ : ∃ g, g = hx h l := ⟨_, rfl⟩
 rw [← hg] at hB ⊢
 refine Qf1 Tryz.func25 ?_
 refine (g4)<|(Qh 0) fun r1=>(QH 1) fun r2=>(gg)<|(Qf 66)<|(Qv 4 0)<|(Qm) ?_
 refine (Ca hB)<|(Qf 66)<|(QtC 0 4)<|Qn<|(gf) ?_
 refine (Av (SV has k n ch g))<|(QW 1)<|Qn<|Qr ?_
 exact ⟨_, rfl, yb 1⟩
theorem zfX (has : Bool) (k : NN) (n : Nat) (ch h : NN) (v : Value) (l : LN) (hv : Sh (DOR :: G) v l) (hb : By l) (hc : L8 32 ch) (hz : l.length ≤ 1073741760) : Fp (DOR :: G) 194 #[SV has k n ch h, v] (SV true (kB ch l) 0 (kA ch l) h) := by
 have hT := zal (G := G) ch v l hc hv hb hz
 obtain ⟨fa, hfa⟩ : ∃ fa, fa = kA ch l := ⟨_, rfl⟩
 obtain ⟨fb, hfb⟩ : ∃ fb, fb = kB ch l := ⟨_, rfl⟩
 rw [← hfa, ← hfb] at hT ⊢
 refine Qf1 Tryz.func194 ?_
 refine (g4)<|(Qh 0) fun r1=>(QH 1) fun r2=>(gg)<|(Qf 34)<|(Qv 3 0)<|(Qm) ?_
 refine (Ca hT)<|(QH 2) fun r3=>(Qt 2)<|(gg)<|(QA 0 0)<|(Qls 2) ?_
 refine (Aa (zaj fa fb))<|(Qf 34)<|(QtC 0 3)<|(gg)<|(QA 32 1)<|(Qls 2) ?_
 refine (Aa (zaa fa fb)) ?_
 refine (Ca (WB fb))<|(Qf 0)<|(QtK 0 0 3)<|Qn<|(gf) ?_
 refine (Av (SV true fb 0 fa h))<|(QW 1)<|Qn<|Qr ?_
 exact ⟨_, rfl, yb 1⟩
theorem z7q (has : Bool) (k : NN) (n : Nat) (ch h : NN) (hc : L8 32 ch) : Fp (DOR :: G) 52 #[SV has k n ch h] (.agg (zr 68 [pV (.bool true), pI .u8 32 (kA ch []), pV (u 0), pV (.bool true), pI .u8 32 (kB ch []), pV (u 0)])) := by
 have hT := zal (G := G) ch zV [] hc (wT _ 1) (by simp) (by decide)
 obtain ⟨fa, hfa⟩ : ∃ fa, fa = kA ch [] := ⟨_, rfl⟩
 obtain ⟨fb, hfb⟩ : ∃ fb, fb = kB ch [] := ⟨_, rfl⟩
 rw [← hfa, ← hfb] at hT ⊢
 refine Qf1 Tryz.func52 ?_
 refine (g4)<|(Qh 0) fun r1=>(QH 1) fun r2=>(gg)<|(Qf 34)<|(Qv 3 0) ?_
 refine (Ca hT)<|(QH 2) fun r3=>(Qt 2)<|Qn<|(gy)<|(QA 0 0)<|(Qls 2) ?_
 refine (Aa (zaj fa fb)) ?_
 refine (Ca (WB fa))<|(QA 32 1)<|(Qls 2) ?_
 refine (Aa (zaa fa fb)) ?_
 refine (Ca (WB fb)) ?_
 refine wC (zr 68 [pV (.bool true), pI .u8 32 fa, pV (u 0), pV (.bool true), pI .u8 32 fb, pV (u 0)]) (Ub 57 rfl) (Uu 57 rfl) (Uz 33 rfl) rfl (by kernel_rfl) rfl ?_
 refine (QW 1)<|Qn<|Qr ?_
 exact ⟨_, rfl, yb 1⟩
theorem zcG {G X : Mem} (has : Bool) (k : NN) (n : Nat) (ch h : NN) (v : Value) (l : LN) (hv : Shows ((DOR :: G) ++ X) 1 v l.length (l.map by8)) (hb : By l) (hh : L8 32 h) (hz : l.length ≤ 1073741792) : Fp ((DOR :: G) ++ X) 25 #[SV has k n ch h, v] (SV has k n ch (hx h l)) := WV (G := G ++ X) has k n ch h v l hv hb hh hz
theorem zbx (has : Bool) (k : NN) (n : Nat) (ch h : NN) (v : Value) (l : LN) (hv : Sh (DOR :: G) v l) (hb : By l) (hc : L8 32 ch) (hh : L8 32 h) (hz : l.length ≤ 1073741760) : Fp (DOR :: G) 212 #[SV has k n ch h, v] (SV true (kC ch l) 0 (kA ch l) (hx h ((List.range 32).map (kB ch l)))) := by
 have hT := z2D (G := G) ch v l hc hv hb hz
 obtain ⟨fa, hfa⟩ : ∃ fa, fa = kA ch l := ⟨_, rfl⟩
 obtain ⟨fb, hfb⟩ : ∃ fb, fb = kB ch l := ⟨_, rfl⟩
 obtain ⟨fc, hfc⟩ : ∃ fc, fc = kC ch l := ⟨_, rfl⟩
 have hfb2 : ∀ j, j < 32 → fb j < 256 := fun j _ => by rw [hfb]; exact XN _ _ _
 obtain ⟨g, hg⟩ : ∃ g, g = hx h ((List.range 32).map (kB ch l)) := ⟨_, rfl⟩
 rw [← hfa, ← hfc, ← hg]
 rw [← hfa, ← hfb, ← hfc] at hT
 refine Qf1 Tryz.func212 ?_
 refine (g4)<|(Qh 0) fun r1=>(QH 1) fun r2=>(gg)<|(Qf 34)<|(Qv 3 0)<|(Qm) ?_
 refine (Ca hT)<|(QH 2) fun r3=>(Qt 2)<|(gg)<|(QA 0 0)<|(Qls 2) ?_
 refine (Aa (zlD fa fb fc))<|(Qf 34)<|(QtC 0 3)<|Qn<|(gy)<|(QD 0) ?_
 refine (Av (SV has k n fa h))<|(QA 32 1)<|(Qsa 0 32) ?_
 refine zD rfl rfl (Un 25) (zh zo (zY 2 rfl ⟨[], trivial⟩)) (zcG (G := G) (X := [(⟨r3, arr .u8 96 (YL fa fb fc), 101⟩ : Blk)]) has k n fa h _ ((List.range 32).map fb) (Shows.mono (z7L _ fa fb fc _) (fun x h => List.mem_append_right _ h)) (wB hfb2) hh (by simp)) rfl rfl ?_
 refine zi (congrArg (fun f => SV has k n fa f) (show hx h ((List.range 32).map fb) = g by rw [hg, hfb])) ?_
 refine (QW 0)<|(gg)<|(QA 64 2)<|(Qls 2) ?_
 refine (Aa (zkS fa fb fc)) ?_
 refine (Ca (WB fc))<|(Qf 0)<|(QtK 0 0 3)<|Qn<|(gf) ?_
 refine (Av (SV true fc 0 fa g))<|(QW 1)<|Qn<|Qr ?_
 exact ⟨_, rfl, yb 1⟩
theorem z68 (has : Bool) (k : NN) (n : Nat) (ch h : NN) (h2 : Bool) (k2 : NN) (n2 : Nat) (v : Value) (l : LN) (hv : Sh (DOR :: G) v l) (hb : By l) (hh : L8 32 h) (hz : l.length ≤ 1073741792) : Fp (DOR :: G) 166 #[SV has k n ch h, CV h2 k2 n2, v] (SV h2 k2 n2 ch (hx h l)) := by
 refine Qf1 Tryz.func166 ?_
 refine (g4)<|(Qh 0) fun r1=>(Qh 1) fun r2=>(QH 2) fun r3=>(gg)<|(QD 1) ?_
 refine (Av (CV h2 k2 n2))<|(Qf 0)<|(QtK 0 0 3)<|Qn<|(gf) ?_
 refine (Av (SV h2 k2 n2 ch h))<|(Qm) ?_
 refine (Ca (WV h2 k2 n2 ch h v l hv hb hh hz))<|(QW 2)<|Qn<|Qr ?_
 exact ⟨_, rfl, yb 2⟩
end Go.Proofs.YtacflmjoigffpaaGreatDoor
