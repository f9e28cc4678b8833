import Derived.Test.YtlidhfijmcelpaaGreatDoorKY12
set_option maxHeartbeats 4000000
set_option maxRecDepth 30000
attribute [local simp] Go.Proofs.YtlidhfijmcelpaaGreatDoor.By Go.Proofs.YtlidhfijmcelpaaGreatDoor.L8
namespace Go.Proofs.YtlidhfijmcelpaaGreatDoor
open Go Go.RowKit
variable {G : Mem}
theorem z5m (a b : Nat) (ha : a < 2 ^ 131) (hb : b < 2 ^ 124) : Fp G 258 #[f3 a, f2 b] (f3 (a * b % QQ)) := by
 obtain ⟨x, hx⟩ : ∃ x, x = a * b := ⟨_, rfl⟩
 have hx2 : x < 2 ^ 255 := by rw [hx]; exact Nat.lt_of_le_of_lt (Nat.mul_le_mul (Nat.le_of_lt_succ ha) (Nat.le_of_lt hb)) (by decide)
 obtain ⟨L, hL⟩ : ∃ L, L = x % 2 ^ 130 := ⟨_, rfl⟩
 obtain ⟨H, hH⟩ : ∃ H, H = x / 2 ^ 130 := ⟨_, rfl⟩
 have hL2 : L < 2 ^ 130 := by rw [hL]; exact Nat.mod_lt _ (by decide)
 have hH2 : H < 2 ^ 125 := by omega
 have hQQ := z1i
 obtain ⟨S, hS⟩ : ∃ S, S = L + 5 * H := ⟨_, rfl⟩
 have hS2 : S < 2 ^ 192 := by omega
 obtain ⟨t, ht⟩ : ∃ t, t = (if S < QQ then 1 else 0) := ⟨_, rfl⟩
 have ht1 : t ≤ 1 := by rw [ht]; split <;> omega
 refine Qf1 Tryz.func258 ?_
 refine (g4)<|(Qh 0) fun r1=>(Qh 1) fun r2=>(QH 2) fun r3=>(gl)<|(jo) ?_
 refine (Ca (zcd a b (by omega) (by omega))) ?_
 refine z6 (congrArg (fun z => Value.agg (arr .u64 5 (wd z))) hx.symm) ?_
 refine (QH 3) fun r4=>(Qt 3)<|(gl)<|(Qj 2)<|(Q1 3)<|(Q8 2)<|(Qj 3)<|(Q1 3) ?_
 refine w7 (s := 62) rfl rfl rfl (by omega) ?_
 refine v4 rfl rfl rfl  ?_
 refine (Au ((hi0 x).trans (by rw [← hH])))<|(Qj 3)<|(Q1 3)<|(Q8 2) ?_
 refine (Au ((hi1 hx2).trans (by rw [← hH]))) ?_
 refine zX (arr .u64 2 (wd H)) (Ub 244 rfl) (Uu 244 rfl) (Uz 31 rfl) rfl rfl rfl ?_
 refine (QH 4) fun r5=>(Qt 4)<|(gl)<|(Qj 0)<|(Q1 3) ?_
 refine (Au ((lo0 x).trans (by rw [← hL])))<|(Qj 1)<|(Q1 3) ?_
 refine (Au ((lo1 x).trans (by rw [← hL])))<|(Qj 2)<|(Q1 3)<|(Q9 3) ?_
 refine (Au ((lo2 x).trans (by rw [← hL]))) ?_
 refine zX (arr .u64 3 (wd L)) (Ub 310 rfl) (Uu 310 rfl) (Uz 31 rfl) rfl rfl rfl ?_
 refine (QH 5) fun r6=>(Qt 5)<|Qn<|(gd)<|(jg) ?_
 refine QzK [(4, _), (6, _), (7, _)] [(0, _), (1, _), (2, _), (3, _), (4, _)] (fun kk E m => ∃ (k : Nat) (s : Nat → Nat), kk = 2 - k ∧ E = [(8, u (qS L H k / 2 ^ (64 * k))), (34, ii k)] ∧ m = [(5, some ⟨r6, arr .u64 3 s, 310⟩)] ∧ (k ≤ 2) ∧ (∀ t, t < k → s t = wd (qS L H k) t) ∧ (∀ t, k ≤ t → s t = wd L t)) ⟨0, wd L, rfl, rfl, rfl, by omega, fun t ht => absurd ht (Nat.not_lt_zero t), fun t _ => rfl⟩ ⟨by rw [zgX]; rfl, rfl, rfl, rfl, rfl, trivial⟩ ⟨rfl, rfl, rfl, rfl, rfl, rfl, trivial⟩ ?_
 rintro kk E m ⟨k, s, rfl, rfl, rfl, hf0_0, hf0_1, hf0_2⟩
 simp only [zo, zu]
 have hw1 := y7 H k
 have hw2 := y7 L k
 have hov := zkq L H k
 have hsk := hf0_2 k (Nat.le_refl k)
 refine (gq) ?_
 refine (Qcd) (fun hc0=>?_) fun hc0=>?_
 ·have hc0 : k < 2 := by omega
  refine (jq)<|(g3)<|(Qg)<|(gb)<|(Qi)<|(Q1 4)<|(Qm)<|(Qi)<|(Q1 5)<|(Qm) ?_
  refine z9 rfl (Un 263) (z5A _ 5 _ _ (by omega) (by omega) (by omega) (by omega)) rfl rfl ?_
  refine (gi)<|(Qi)<|(Qu 5)<|(jb) ?_
  refine QzL ⟨k + 1, upd s k _, rfl, rfl, rfl, by omega, zjJ (hf0_2 k (Nat.le_refl k)) hf0_1, Xk hf0_2⟩ ⟨by rw [← zkj, ← hsk]; rfl, rfl, rfl, rfl, rfl, trivial⟩ ⟨rfl, rfl, rfl, rfl, rfl, rfl, trivial⟩ ?_
  omega
 ·have hz0 : k = 2 := by omega
  subst hz0
  refine (jn)<|(Qj 2)<|(Q1 5)<|(Qm)<|(Qau) ?_
  refine (Au (Nat.mod_eq_of_lt (show s 2 + qS L H 2 / 2 ^ (64 * 2) < 18446744073709551616 by have := hf0_2 2 (Nat.le_refl 2); have h4 : wd L 2 < 4 := z3v hL2; omega)))<|(Qj 2)<|(Qu 5)<|(jf)<|(Qd 5) ?_
  refine z6 (show _ = f3 S by rw [hS]; exact (Yf (zj4 hL2 hH2 hf0_1 hf0_2)).symm) ?_
  refine (Ca Wv) ?_
  refine z9 rfl (Un 260) (z1K _ _ (by omega) (by omega)) rfl rfl ?_
  refine (gi) ?_
  refine (Au ht.symm)<|(QH 6) fun r7=>(Qt 6)<|(g3)<|(gr)<|(Qd 6) ?_
  refine (Ca Wv)<|(Qm) ?_
  refine z9 rfl (Un 264) (zbc _ _ (by omega)) rfl rfl ?_
  refine (Ca (z0J _ _))<|(Qt 2)<|Qn<|Qr ?_
  rw [ht, ← hx, Yf (zbQ (S := S) hx2 (by rw [hS, hL, hH]))]
  exact ⟨_, rfl, ya 2⟩
theorem z53 (r p : NN) (A : Nat) (h : NN) (n : Nat) (hr0 : r 0 < 18446744073709551616) (hr1 : r 1 < 18446744073709551616) (hR : k3 r < 2 ^ 124) (hA : A < 2 ^ 130) (hn : n ≤ 16) (hh : L8 16 h) (hz : ∀ j, n ≤ j → j < 16 → h j = 0) : Fp G 252 #[PV r p (wd A) h n] (PV r p (wd (pst (k3 r) A ((List.range n).map h))) (fun _ => 0) ((0 : Nat) : Int)) := by
 obtain ⟨V, hV⟩ : ∃ V, V = vb h 16 := ⟨_, rfl⟩
 obtain ⟨B, hB⟩ : ∃ B, B = leN ((List.range n).map h ++ [1]) := ⟨_, rfl⟩
 have hB2 : B < 2 * 2 ^ 128 := by rw [hB]; exact z0i (fun b hb => by obtain ⟨j, hj, rfl⟩ := List.mem_map.1 hb; exact hh j (by have := List.mem_range.1 hj; omega)) (by simp; exact hn)
 have hps : (A + B) * k3 r % QQ = pst (k3 r) A ((List.range n).map h) := by unfold pst; rw [← hB, Nat.mod_mul_mod]
 refine Qf1 Tryz.func252 ?_
 refine (g4)<|(Qh 0) fun r1=>(QH 1) fun r2=>(gl)<|(Qf 7)<|(Qv 3 0) ?_
 refine (Ca (z1f h hh)) ?_
 refine z6 (congrArg f2 hV.symm) ?_
 refine (QH 2) fun r3=>(Qt 2)<|(gl)<|(Qj 0)<|(Q1 2)<|(Qj 1)<|(Q1 2) ?_
 refine zX (arr .u64 3 (upd (wd V) 2 0)) (Ub 310 rfl) (Uu 310 rfl) (Uz 31 rfl) rfl rfl rfl ?_
 refine (QH 3) fun r4=>(Qt 3)<|(jf)<|(Qf 23)<|(QV 4 0)<|(Q5 8)<|(Qi)<|(Q1 3)<|(Qf 23)<|(QV 4 0)<|(Q4 8)<|(Q6 8) ?_
 refine w7 (p := 1) rfl rfl rfl (by omega) ?_
 refine v4 rfl rfl rfl  ?_
 refine (Qi)<|(Qu 3)<|(jf)<|(Qf 4)<|(Qv 2 0)<|(Qd 3) ?_
 refine z6 (show _ = f3 B from (Yf (zcZ hh hz hn hV hB)).symm) ?_
 refine (Ca (z0J _ _))<|(j8) ?_
 refine z6 (zij (z8K hr0 hr1)).symm ?_
 refine (Ca (z5m (A + B) (k3 r) (by omega) hR)) ?_
 refine z6 (congrArg f3 hps) ?_
 refine (Qf 4)<|(QtC 0 2)<|(gl) ?_
 refine wo (Ub 213 rfl) (Uu 213 rfl) z5u rfl ?_
 refine (Qf 7)<|(QtC 0 3)<|(Qf 23)<|(QtV 0 4)<|Qn<|(gc) ?_
 refine (Av (PV r p (wd (pst (k3 r) A ((List.range n).map h))) (fun _ => 0) ((0 : Nat) : Int)))<|(QW 1)<|Qn<|Qr ?_
 exact ⟨_, rfl, yb 1⟩
theorem z8J (r p : NN) (A : Nat) (h : NN) (n : Int) (hp0 : p 0 < 18446744073709551616) (hp1 : p 1 < 18446744073709551616) : Fp G 255 #[PV r p (wd A) h n] (.agg (arr .u8 16 (tgn (k3 (wd A)) (k3 p)))) := by
 obtain ⟨X, hX⟩ : ∃ X, X = A + k3 p := ⟨_, rfl⟩
 have hE : ∀ s : Nat → Nat, (∀ j, j < 16 → s j = bt X j) → arr .u8 16 s = arr .u8 16 (tgn (k3 (wd A)) (k3 p)) := fun s h => zg fun j hj => (h j hj).trans (by rw [hX]; exact zji A (k3 p) hj)
 refine Qf1 Tryz.func255 ?_
 refine (g4)<|(Qh 0) fun r1=>(QH 1) fun r2=>(gl)<|(Qf 4)<|(Qv 2 0)<|(Qf 2)<|(QA 2 0)<|(QI 1 0 0)<|(Qf 2)<|(QA 3 1)<|(QI 1 1 0) ?_
 refine zX (arr .u64 3 (upd p 2 0)) (Ub 310 rfl) (Uu 310 rfl) (Uz 31 rfl) rfl rfl rfl ?_
 refine z6 (show _ = f3 (k3 p) from (Yf (zeV hp0 hp1)).symm) ?_
 refine (Ca (z0J _ _)) ?_
 refine z6 (congrArg f3 hX.symm) ?_
 refine (QH 2) fun r3=>(Qt 2)<|(gl)<|(QH 3) fun r4=>Qn<|(jg) ?_
 refine QzK [(2, _), (3, _), (4, _)] [(0, _), (1, _), (2, _)] (fun kk E m => ∃ (i : Nat) (s : Nat → Nat), kk = 16 - i ∧ E = [(16, ii i)] ∧ m = [(3, some ⟨r4, arr .u8 16 s, 213⟩)] ∧ (i ≤ 16) ∧ (∀ j, j < i → s j = bt X j)) ⟨0, fun _ => 0, rfl, rfl, rfl, by omega, fun j hj => absurd hj (Nat.not_lt_zero j)⟩ ⟨rfl, rfl, rfl, rfl, trivial⟩ ⟨rfl, rfl, rfl, rfl, trivial⟩ ?_
 rintro kk E m ⟨i, s, rfl, rfl, rfl, hf0_0, hf0_1⟩
 simp only [zo, zu]
 refine (gq) ?_
 refine (Qcd) (fun hc0=>?_) fun hc0=>?_
 ·have hc0 : i < 16 := by omega
  refine (jq)<|(g3)<|Qp<|(gb)<|(Q5 8)<|(Qi)<|(Q1 2)<|(Qm)<|(Q4 8)<|(Q6 8) ?_
  refine YY rfl rfl rfl (by omega) ?_
  refine x8 (Uu 31) (Uu 5) rfl rfl rfl ?_
  refine (Qi)<|(Qu 3)<|(jc) ?_
  refine QzL ⟨i + 1, upd s i _, rfl, rfl, rfl, by omega, yM hf0_1 (z40 X i)⟩ ⟨rfl, rfl, rfl, rfl, trivial⟩ ⟨rfl, rfl, rfl, rfl, trivial⟩ ?_
  omega
 ·have hz0 : i = 16 := by omega
  subst hz0
  refine (jn)<|(Qd 3)<|(ja)<|Qr ?_
  rw [← hE _ hf0_1]
  exact ⟨_, rfl, ya 1⟩
theorem zac (f : NN) (hf : L8 32 f) : Fp G 240 #[.agg (arr .u8 32 f)] (PV (w8 (bL f)) (fun j => w8 (bL f) (j + 2)) (fun _ => 0) (fun _ => 0) 0) := by
 refine Qf1 Tryz.func240 ?_
 refine (g4)<|(Qh 0) fun r1=>(QH 1) fun r2=>(jf) ?_
 refine xo 0 16 (Uu 30) (Uz 5) rfl rfl rfl rfl ⟨_, rfl⟩ (by omega) (by omega) (by omega) rfl ?_
 refine z3b (Uu 213) rfl (by omega) rfl ?_
 refine (Qls 0) ?_
 refine (Aa (fun j _ => congrArg f (Nat.zero_add j))) ?_
 refine (Ca (z1f f (fun j hj => hf j (by omega)))) ?_
 refine xo 16 32 (Uu 30) (Uz 5) rfl rfl rfl ⟨_, rfl⟩ rfl (by omega) (by omega) (by omega) rfl ?_
 refine z3b (Uu 213) rfl (by omega) rfl ?_
 refine (Qls 0) ?_
 refine z9 rfl (Un 253) (z1f (fun t => f (16 + t)) (fun j hj => hf _ (by omega))) rfl rfl ?_
 refine (Aa (zgf hf))<|(QH 2) fun r3=>(QH 3) fun r4=>(Qt 2)<|(Qt 3)<|(jf)<|(Qd 2) ?_
 refine (Ca (we _)) ?_
 refine (Aa (z24 hf))<|(Qd 3) ?_
 refine zC (cells 24 [pI .u64 2 (w8 (bL f)), pI .u64 2 (fun j => w8 (bL f) (j + 2)), pI .u64 3 (fun _ => 0), pI .u8 16 (fun _ => 0), pV (.int .i64 0)]) (Ub 247 rfl) (Uu 247 rfl) zfC rfl rfl rfl ?_
 refine (QW 1)<|Qn<|Qr ?_
 exact ⟨_, rfl, yb 1⟩
theorem V1 (r p a h : NN) (n : Int) (ha0 : a 0 < 18446744073709551616) (ha1 : a 1 < 18446744073709551616) (ha2 : a 2 < 18446744073709551616) (hr0 : r 0 < 18446744073709551616) (hr1 : r 1 < 18446744073709551616) : Fp G 251 #[PV r p a h n] (ii (if (yE r a n && okh n h 16) = true then 0 else 9)) := by
 refine Qf1 Tryz.func251 ?_
 refine (g4)<|(Qh 0) fun r1=>(g3)<|Qs<|Qs ?_
 rcases zjs (n := n) hr0 hr1 ha0 ha1 ha2 with ⟨hk0, hko⟩ | ⟨hk0, hk1, hko⟩ | ⟨hk0, hk1, hk2, hko⟩ | ⟨hk0, hk1, hk2, hk3, hko⟩ | ⟨hk0, hk1, k, rfl, hk3, hko⟩
 ·skip
  refine (Qg)<|(j8) ?_
  refine (Ca (we _))<|(j8) ?_
  refine W2 (Uu 244) (Uu 31) (Uz 31) vU rfl rfl rfl ?_
  refine z6 (congrArg (fun z => Value.bool (!z)) hk0) ?_
  refine (j6)<|(QT)<|(Qm)<|(gx)<|(QT)<|(Qm)<|(gx)<|(QT)<|(gu) ?_
  have hfin := z8x (d := okh n h 16) hko
  refine (j4) ?_
  first | rw [if_pos hfin] | rw [if_neg hfin]
  exact ⟨_, rfl, yt⟩
 ·skip
  refine (Qg)<|(j8) ?_
  refine (Ca (we _))<|(j8) ?_
  refine W2 (Uu 244) (Uu 31) (Uz 31) vU rfl rfl rfl ?_
  refine z6 (congrArg (fun z => Value.bool (!z)) hk0) ?_
  refine (g7)<|(Qf 4)<|(Qy)<|(Qv 2 0) ?_
  refine z6 (Yf (Yp ha0 ha1 ha2)).symm ?_
  refine (Qy) ?_
  refine (Ca (YX (w3 a) (XJ ha0 ha1 ha2)))<|(Qy)<|(Q0) ?_
  refine z6 (congrArg (fun z => Value.bool (!z)) (decide_eq_false hk1)) ?_
  refine (QF)<|(Qm)<|(gx)<|(QT)<|(Qm)<|(gx)<|(QT)<|(gu) ?_
  have hfin := z8x (d := okh n h 16) hko
  refine (j4) ?_
  first | rw [if_pos hfin] | rw [if_neg hfin]
  exact ⟨_, rfl, yt⟩
 ·skip
  refine (Qg)<|(j8) ?_
  refine (Ca (we _))<|(j8) ?_
  refine W2 (Uu 244) (Uu 31) (Uz 31) vU rfl rfl rfl ?_
  refine z6 (congrArg (fun z => Value.bool (!z)) hk0) ?_
  refine (g7)<|(Qf 4)<|(Qy)<|(Qv 2 0) ?_
  refine z6 (Yf (Yp ha0 ha1 ha2)).symm ?_
  refine (Qy) ?_
  refine (Ca (YX (w3 a) (XJ ha0 ha1 ha2)))<|(Qy)<|(Q0) ?_
  refine z6 (congrArg (fun z => Value.bool (!z)) (decide_eq_true hk1)) ?_
  refine (QF)<|(g7)<|(jh)<|(Qy)<|(Ql)<|(Qat)<|(QF)<|(Qm)<|(gx)<|(QT)<|(gu) ?_
  have hfin := z8x (d := okh n h 16) hko
  refine (j4) ?_
  first | rw [if_pos hfin] | rw [if_neg hfin]
  exact ⟨_, rfl, yt⟩
 ·skip
  refine (Qg)<|(j8) ?_
  refine (Ca (we _))<|(j8) ?_
  refine W2 (Uu 244) (Uu 31) (Uz 31) vU rfl rfl rfl ?_
  refine z6 (congrArg (fun z => Value.bool (!z)) hk0) ?_
  refine (g7)<|(Qf 4)<|(Qy)<|(Qv 2 0) ?_
  refine z6 (Yf (Yp ha0 ha1 ha2)).symm ?_
  refine (Qy) ?_
  refine (Ca (YX (w3 a) (XJ ha0 ha1 ha2)))<|(Qy)<|(Q0) ?_
  refine z6 (congrArg (fun z => Value.bool (!z)) (decide_eq_true hk1)) ?_
  refine (QF)<|(g7)<|(jh)<|(Qy)<|(Ql)<|(Qaf)<|(QF)<|(g7)<|(jh)<|(Qy)<|(QE)<|(Qat)<|(QF)<|(gu) ?_
  have hfin := z8x (d := okh n h 16) hko
  refine (j4) ?_
  first | rw [if_pos hfin] | rw [if_neg hfin]
  exact ⟨_, rfl, yt⟩
 ·skip
  refine (Qg)<|(j8) ?_
  refine (Ca (we _))<|(j8) ?_
  refine W2 (Uu 244) (Uu 31) (Uz 31) vU rfl rfl rfl ?_
  refine z6 (congrArg (fun z => Value.bool (!z)) hk0) ?_
  refine (g7)<|(Qf 4)<|(Qy)<|(Qv 2 0) ?_
  refine z6 (Yf (Yp ha0 ha1 ha2)).symm ?_
  refine (Qy) ?_
  refine (Ca (YX (w3 a) (XJ ha0 ha1 ha2)))<|(Qy)<|(Q0) ?_
  refine z6 (congrArg (fun z => Value.bool (!z)) (decide_eq_true hk1)) ?_
  refine (QF)<|(g7)<|(jh)<|(Qy)<|(Ql)<|(Qaf)<|(QF)<|(g7)<|(jh)<|(Qy)<|(QE)<|(Qaf)<|(QF)<|(gn)<|(gs)<|(Qf 7)<|(Qf 23)<|(QV 4 0) ?_
  refine xo k 16 (Uu 213) (Uz 5) rfl rfl rfl ⟨_, rfl⟩ rfl (by omega) (by omega) (by omega) rfl ?_
  refine z92 (Uu 22) rfl rfl rfl ?_
  refine (Qm)<|Qn<|Qb ?_
  refine QzK [(30, _), (31, _)] [(0, _)] (fun kk E m => ∃ (i : Nat), kk = 16 - k - i ∧ E = [(32, ii i)] ∧ m = [] ∧ (i ≤ 16 - k) ∧ (∀ j, j < i → h (k + j) = 0)) ⟨0, rfl, rfl, rfl, by omega, fun j hj => absurd hj (Nat.not_lt_zero j)⟩ ⟨rfl, rfl, rfl, trivial⟩ ⟨rfl, trivial⟩ ?_
  rintro kk E m ⟨i, rfl, rfl, rfl, hf0_0, hf0_1⟩
  simp only [zo, zu]
  refine (gq) ?_
  refine (Qcd) (fun hc1=>?_) fun hc1=>?_
  ·have hc1 : i < 16 - k := by omega
   refine Qk<|Qs<|Qb<|(g4) ?_
   refine z3e (7 + (k + i)) (Uu 22) (Uz 5) rfl rfl (by omega) (by omega) rfl ?_
   refine z2H (i := 0) 3 (k + i) (Uu 5) rfl rfl rfl rfl (by first | rfl | omega) (by omega) (by omega) rfl ⟨[], trivial⟩ ?_
   refine (jr)<|Qn ?_
   refine (Qcd) (fun hc2=>?_) fun hc2=>?_
   ·have hfin : ¬ (yE r a (k : Int) && okh (k : Int) h 16) = true := by rw [zhy hc1 (fun e => hc2 (by rw [e]; rfl))]; simp
    refine (j4) ?_
    first | rw [if_pos hfin] | rw [if_neg hfin]
    exact ⟨_, rfl, yt⟩
   ·have hcz : h (k + i) = 0 := by omega
    refine Qk<|(gk) ?_
    refine QzL ⟨i + 1, rfl, rfl, rfl, by omega, fun j hj => by by_cases e : j = i; exact e ▸ hcz; exact hf0_1 j (by omega)⟩ ⟨rfl, rfl, rfl, trivial⟩ ⟨rfl, trivial⟩ ?_
    omega
  ·have hz0 : i = 16 - k := by omega
   have hfin : (yE r a (k : Int) && okh (k : Int) h 16) = true := by rw [hko, zhd (by rw [← hz0]; exact hf0_1)]; rfl
   refine Qe<|(j4) ?_
   first | rw [if_pos hfin] | rw [if_neg hfin]
   exact ⟨_, rfl, yt⟩
theorem zgD (r p : NN) (A : Nat) (h : NN) (n : Nat) (v : Value) (l : LN) (hv : Sh G v l) (hlb : By l) (hA : A < 2 ^ 130) (hr0 : r 0 < 18446744073709551616) (hr1 : r 1 < 18446744073709551616) (hR : k3 r < 2 ^ 124) (hn : n < 16) (hh : L8 16 h) (hz : ∀ j, n ≤ j → j < 16 → h j = 0) (hok : (yE r (wd A) n && okh n h 16) = true) (hlen : l.length + 16 ≤ 9223372036854775807) : Fp G 239 #[PV r p (wd A) h n, v] (.tuple #[PV r p (wd (wK (k3 r) A (sS h n l) ((sS h n l).length / 16))) (fun i => ((sS h n l).drop (16 * ((sS h n l).length / 16))).getD i 0) (((sS h n l).drop (16 * ((sS h n l).length / 16))).length : Int), ii 0]) := by
 have hSl := V3 h n l
 have hSb := z9i (n := n) (fun j hj => hh j (by omega)) hlb
 have hwA := y7 A
 refine Qf2 Tryz.func239 ?_
 refine (g4)<|(Qh 0) fun r1=>(QH 1) fun r2=>(g3)<|Qs<|(gc) ?_
 refine (Ca (V1 r p (wd A) h n (hwA 0) (hwA 1) (hwA 2) hr0 hr1)) ?_
 refine (Ai (if_pos hok))<|(jr)<|(gn)<|(ge)<|(QC hv)<|(Qm)<|Qn<|Qb ?_
 refine QzK [(2, _), (4, _), (5, _), (15, _), (16, _)] [(1, _)] (fun kk E m => ∃ (i : Nat) (ac : Nat) (g : Nat → Nat) (c : Nat), kk = l.length - i ∧ E = [(17, ii i)] ∧ m = [(0, some ⟨r1, cells 24 [pI .u64 2 r, pI .u64 2 p, pI .u64 3 (wd ac), pI .u8 16 g, pV (.int .i64 ((c : Nat) : Int))], 247⟩)] ∧ (i ≤ l.length) ∧ (ac = wK (k3 r) A (sS h n l) ((n + i) / 16)) ∧ (c = (n + i) % 16) ∧ (∀ j, j < 16 → g j = Yc (sS h n l) (n + i) j)) ⟨0, A, h, n, rfl, rfl, rfl, by omega, by rw [show (n + 0) / 16 = 0 by omega]; rfl, by omega, z74 hn hz⟩ ⟨rfl, rfl, rfl, rfl, rfl, rfl, trivial⟩ ⟨rfl, rfl, trivial⟩ ?_
 rintro kk E m ⟨i, ac, g, c, rfl, rfl, rfl, hf0_0, hf0_1, hf0_2, hf0_3⟩
 simp only [zo, zu]
 have hac : ac < 2 ^ 130 := by rw [hf0_1]; exact z98 hA _
 refine (gq) ?_
 refine (Qcd) (fun hc1=>?_) fun hc1=>?_
 ·have hc1 : i < l.length := by omega
  refine Qk<|Qs<|Qb<|(g4) ?_
  refine yf hv (Uu 22) (Uz 5) rfl rfl (by omega) rfl ?_
  refine (QS) ?_
  refine zR hv za (Uu 5) rfl rfl (z9p hc1) rfl ?_
  refine (j9)<|(Qf 23)<|(QV 4 0)<|(Qm)<|(Qf 7)<|(QB (7 + c)) ?_
  refine z9m (i := 0) 3 (c) (Uz 5) rfl rfl rfl rfl (by first | rfl | omega) (by omega) (by omega) (.inl rfl) ?_
  refine (gl)<|(Qf 23)<|(QV 4 0)<|(Q2 1)<|(Qf 23)<|(QtV 0 4)<|(gl)<|(Qf 23)<|(QV 4 0)<|(Qc)<|Qn ?_
  refine (Qcd) (fun hc2=>?_) fun hc2=>?_
  ·have hc16 : c + 1 = 16 := by omega
   refine Qp<|(QD 0) ?_
   refine (Av (PV r p (wd ac) (upd g c l[i]) ((c + 1 : Nat) : Int))) ?_
   refine z9 rfl (Un 252) (z53 r p ac (upd g c l[i]) (c + 1) hr0 hr1 hR hac (by omega) (fun j hj => by unfold upd; split; exact hlb _ (List.getElem_mem hc1); rw [hf0_3 j hj]; exact zie hSb _ _) (fun j h1 h2 => absurd h2 (by omega))) rfl rfl ?_
   refine (QW 0)<|(jc) ?_
   refine QzL ⟨i + 1, _, _, _, rfl, rfl, rfl, by omega, (by first | exact z2v (T := n + i) (by omega) hf0_1 | exact z2q (T := n + i) (by omega) hf0_1 (by rw [hc16, hf0_2]; exact z1O (T := n + i) (by omega) (by omega) (z8E hc1) hf0_3)), by omega, (by first | exact z2m (T := n + i) (by omega) | (rw [hf0_2]; exact z2y (T := n + i) (by omega) (z8E hc1) hf0_3))⟩ ⟨rfl, rfl, rfl, rfl, rfl, rfl, trivial⟩ ⟨rfl, rfl, trivial⟩ ?_
   omega
  ·refine Qk<|Qp<|(Q2 1)<|(Qm)<|Qn ?_
   refine QzL ⟨i + 1, _, _, _, rfl, rfl, rfl, by omega, (by first | exact z2v (T := n + i) (by omega) hf0_1 | exact z2q (T := n + i) (by omega) hf0_1 (by rw [hc16, hf0_2]; exact z1O (T := n + i) (by omega) (by omega) (z8E hc1) hf0_3)), by omega, (by first | exact z2m (T := n + i) (by omega) | (rw [hf0_2]; exact z2y (T := n + i) (by omega) (z8E hc1) hf0_3))⟩ ⟨rfl, rfl, rfl, rfl, rfl, rfl, trivial⟩ ⟨rfl, rfl, trivial⟩ ?_
   omega
 ·have hz0 : i = l.length := by omega
  refine Qe<|(gc) ?_
  refine z6 (Eq.trans (show _ = PV r p (wd ac) g ((c : Nat) : Int) from rfl) (show _ = PV r p (wd (wK (k3 r) A (sS h n l) ((sS h n l).length / 16))) (fun i => ((sS h n l).drop (16 * ((sS h n l).length / 16))).getD i 0) (((sS h n l).drop (16 * ((sS h n l).length / 16))).length : Int) from zdw (fun _ _ => rfl) (fun _ _ => rfl) (fun _ _ => by rw [hf0_1, hSl, hz0]) (zcB (by rw [hSl, ← hz0]; exact hf0_3)) (by rw [List.length_drop]; omega))) ?_
  refine (QW 1)<|(gt) ?_
  exact ⟨_, _, rfl, yb 1, yt⟩
theorem zbt (r p : NN) (A : Nat) (h : NN) (n : Nat) (hr0 : r 0 < 18446744073709551616) (hr1 : r 1 < 18446744073709551616) (hp0 : p 0 < 18446744073709551616) (hp1 : p 1 < 18446744073709551616) (hn : n = 0) (hok : (yE r (wd A) n && okh n h 16) = true) : Fp G 241 #[PV r p (wd A) h n] (.tuple #[.agg (arr .u8 16 (tgn (k3 (wd A)) (k3 p))), ii 0]) := by
 have hwA := y7 A
 refine Qf2 Tryz.func241 ?_
 refine (g4)<|(Qh 0) fun r1=>(QH 1) fun r2=>(g3)<|Qs<|(gc) ?_
 refine (Ca (V1 r p (wd A) h n (hwA 0) (hwA 1) (hwA 2) hr0 hr1)) ?_
 refine (Ai (if_pos hok))<|(jr)<|(gn)<|(gs)<|(Qf 23)<|(QV 4 0)<|(QG)<|Qn ?_
 refine zh rfl ?_ ?_
 ·intro hc1
  exact absurd (of_decide_eq_true hc1) (by omega)
 ·intro hc1
  refine Qk<|(gc) ?_
  refine (Ca (z8J r p A h n hp0 hp1))<|(Qt 1)<|(gt) ?_
  exact ⟨_, _, rfl, ya 1, yt⟩
theorem zak (r p : NN) (A : Nat) (h : NN) (n : Nat) (hr0 : r 0 < 18446744073709551616) (hr1 : r 1 < 18446744073709551616) (hp0 : p 0 < 18446744073709551616) (hp1 : p 1 < 18446744073709551616) (hR : k3 r < 2 ^ 124) (hA : A < 2 ^ 130) (hh : L8 16 h) (hz : ∀ j, n ≤ j → j < 16 → h j = 0) (hn : 0 < n) (hn2 : n < 16) (hok : (yE r (wd A) n && okh n h 16) = true) : Fp G 241 #[PV r p (wd A) h n] (.tuple #[.agg (arr .u8 16 (tgn (k3 (wd (pst (k3 r) A ((List.range n).map h)))) (k3 p))), ii 0]) := by
 have hwA := y7 A
 refine Qf2 Tryz.func241 ?_
 refine (g4)<|(Qh 0) fun r1=>(QH 1) fun r2=>(g3)<|Qs<|(gc) ?_
 refine (Ca (V1 r p (wd A) h n (hwA 0) (hwA 1) (hwA 2) hr0 hr1)) ?_
 refine (Ai (if_pos hok))<|(jr)<|(gn)<|(gs)<|(Qf 23)<|(QV 4 0)<|(QG)<|Qn ?_
 refine zh rfl ?_ ?_
 ·intro hc1
  refine Qp<|(QD 0) ?_
  refine (Ca (z53 r p A h n hr0 hr1 hR hA (by omega) hh hz))<|(QW 0)<|Qn<|(gc) ?_
  refine (Ca (z8J r p (pst (k3 r) A ((List.range n).map h)) (fun _ => 0) ((0 : Nat) : Int) hp0 hp1))<|(Qt 1)<|(gt) ?_
  exact ⟨_, _, rfl, ya 1, yt⟩
 ·intro hc1
  exact absurd (of_decide_eq_false hc1) (by omega)
theorem z6I {G : Mem} (f : NN) (hf : L8 32 f) : Fp G 240 #[.agg (arr .u8 32 f)] (stP f []) := by
 rw [← z8g f]; exact zac f hf
theorem z0n (m : LN) : ∀ j, (yx m).length ≤ j → j < 16 → wY m j = 0 := fun j h1 _ => by
 unfold wY
 rw [List.getD_eq_getElem?_getD, List.getElem?_eq_none h1]; rfl
theorem z7D {G : Mem} (f : NN) (m : LN) (v : Value) (l : LN) (hf : L8 32 f) (hm : By m) (hv : Sh G v l) (hlb : By l) (hlen : l.length + 16 ≤ 9223372036854775807) :
  Fn Tryz.prog G 239 #[stP f m, v] (.tuple #[stP f (m ++ l), ii 0]) := by
 have hb := z28 hf
 have h := zgD (G := G) (w8 (bL f)) (fun j => w8 (bL f) (j + 2)) (ZO (k3 (w8 (bL f))) m) (wY m) (yx m).length v l hv hlb (Nat.lt_trans (Xs _ _) z13) (xd hb 0) (xd hb 1) (z5O (xd hb 0) (xd hb 1) (vF hf)) (by rw [vE]; omega) (fun j _ => Wg hm j) (z0n m) (XE (vF hf) _ m) hlen
 rw [z2Z, z4J, z1V] at h
 exact h
theorem z6V {G : Mem} (f : NN) (m : LN) (hf : L8 32 f) (hm : By m) : Fp G 241 #[stP f m] (.tuple #[.agg (arr .u8 16 (ptg f m)), ii 0]) := by
 have hb := z28 hf
 have hok := XE (vF hf) (k3 (w8 (bL f))) m
 by_cases h0 : (yx m).length = 0
 ·have h := zbt (G := G) (w8 (bL f)) (fun j => w8 (bL f) (j + 2)) (ZO (k3 (w8 (bL f))) m) (wY m) (yx m).length (xd hb 0) (xd hb 1) (xd hb 2) (xd hb 3) h0 hok
  unfold stP cP
  rw [show ZO (k3 (w8 (bL f))) m = zfA (k3 (w8 (bL f))) m from (if_pos h0).symm] at h ⊢
  exact h
 ·have h := zak (G := G) (w8 (bL f)) (fun j => w8 (bL f) (j + 2)) (ZO (k3 (w8 (bL f))) m) (wY m) (yx m).length (xd hb 0) (xd hb 1) (xd hb 2) (xd hb 3) (z5O (xd hb 0) (xd hb 1) (vF hf)) (Nat.lt_trans (Xs _ _) z13) (fun j _ => Wg hm j) (z0n m) (by omega) (by rw [vE]; omega) hok
  rw [z2s, show pst (k3 (w8 (bL f))) (ZO (k3 (w8 (bL f))) m) (yx m) = zfA (k3 (w8 (bL f))) m from (if_neg h0).symm] at h
  exact h
theorem zi1 (f : NN) (v : Value) (l : LN) (hf : L8 32 f) (hb : By l) (hl : l.length ≤ 140737488351232) (hv : Sh G v l) : Fp G 225 #[.agg (arr .u8 32 f), v] (.agg (arr .u8 16 (ptg f l))) := by
 have hl2 : l.length + 16 ≤ 9223372036854775807 := by omega
 refine Qf1 Tryz.func225 ?_
 refine (g4)<|(Qh 0) fun r1=>(QH 1) fun r2=>(gl)<|(Qd 0) ?_
 refine (Ca (z6I f hf))<|(Qm) ?_
 refine (Ca (z7D f [] v l hf (by simp) hv hb hl2)) ?_
 refine (Av (Value.tuple #[stP f l, ii 0]))<|(gi)<|(QH 2) fun r3=>(QW 2)<|(j9)<|(QD 2) ?_
 refine (Ca (z6V f l hf hb))<|(gi)<|(QH 3) fun r4=>(Qt 3)<|(j9)<|(Qd 3)<|(ja)<|Qr ?_
 exact ⟨_, rfl, ya 1⟩
theorem z6v (va vt : Value) (ad tx : LN) (hva : Sh G va ad) (hvt : Sh G vt tx) (hal : ad.length ≤ 10000) (htl : tx.length ≤ 10000) : Fq G [] 226 #[va, vt] (R1 5 (Z8 ad tx)) := by
 have hml := WM ad tx
 have hse := zbf ad tx
 refine QfN Tryz.func226 ?_
 refine (gd)<|Qs<|QR ⟨[], 4, [], none, none⟩<|(gb)<|(QC hva) ?_
 refine zI 0 (fun v => v) rfl rfl (Un 242) za (z4n ad.length) (by simp only [maxLen]; omega) (by rw [List.length_map, wC, Nat.mul_one]) rfl rfl fun v1_1 oz1_1 ho1_1 => ?_
 refine (gb)<|(QC hvt) ?_
 refine zI 1 (fun v => v) rfl rfl (Un 242) za (z4n tx.length) (by simp only [maxLen]; omega) (by rw [List.length_map, wC, Nat.mul_one]) rfl rfl fun v1_2 oz1_2 ho1_2 => ?_
 refine (Qm)<|(QC hva) ?_
 refine zI 2 (fun v => v) rfl rfl (Un 243) za (z21 ad.length) (by simp only [maxLen]; omega) (by rw [List.length_map, zL]) rfl rfl fun v1_3 oz1_3 ho1_3 => ?_
 refine (Qm)<|(QC hvt) ?_
 refine zI 3 (fun v => v) rfl rfl (Un 243) za (z21 tx.length) (by simp only [maxLen]; omega) (by rw [List.length_map, zL]) rfl rfl fun v1_4 oz1_4 ho1_4 => ?_
 refine yl 4 [va, v1_1, vt, v1_2, v1_3, v1_4].toArray (Uu 154 rfl) (Uz 22 rfl) (Ub 22 rfl) (by decide) (by decide) rfl (xL [va, v1_1, vt, v1_2, v1_3, v1_4] 0 _ (by intro v hv; simp only [List.mem_cons, List.not_mem_nil, or_false] at hv; rcases hv with rfl | rfl | rfl | rfl | rfl | rfl; exact yk hva; exact yk ho1_1.shows; exact yk hvt; exact yk ho1_2.shows; exact yk ho1_3.shows; exact yk ho1_4.shows) (by simp)) rfl fun r5 => ?_
 refine zI 5 (fun v => v) rfl rfl (Un 67) (zf za (zf (zH 0 rfl ⟨[], trivial⟩) (zf (zH 1 rfl ⟨[], trivial⟩) (zf (zH 2 rfl ⟨[], trivial⟩) (zf (zH 3 rfl ⟨[], trivial⟩) (ym 4 rfl ⟨[], trivial⟩)))))) (z1N (G := (G ++ (oz1_1.toList ++ (oz1_2.toList ++ (oz1_3.toList ++ (oz1_4.toList ++ [(⟨r5, [va, v1_1, vt, v1_2, v1_3, v1_4].toArray, 22⟩ : Blk)])))))) (.slice (some ⟨r5, 0, none⟩) 6 6) [va, v1_1, vt, v1_2, v1_3, v1_4] [ad, zrs ((16 - ad.length % 16) % 16), tx, zrs ((16 - tx.length % 16) % 16), xR ad.length 8, xR tx.length 8] (Shows.mono (xp (r := r5) (len := 6) (z := 1) [va, v1_1, vt, v1_2, v1_3, v1_4].toArray 22 rfl) (fun x h => (List.mem_append_right _ (List.mem_append_right _ (List.mem_append_right _ (List.mem_append_right _ (List.mem_append_right _ h))))))) (yJ (hva.mono (fun x h => (List.mem_append_left _ h))) (yJ (Shows.mono (OwnS.shows (zw ho1_1 (wC _).symm rfl)) (fun x h => (List.mem_append_right _ (List.mem_append_left _ h)))) (yJ (hvt.mono (fun x h => (List.mem_append_left _ h))) (yJ (Shows.mono (OwnS.shows (zw ho1_2 (wC _).symm rfl)) (fun x h => (List.mem_append_right _ (List.mem_append_right _ (List.mem_append_left _ h))))) (yJ (Shows.mono (OwnS.shows (zw ho1_3 (zL ad.length 8).symm rfl)) (fun x h => (List.mem_append_right _ (List.mem_append_right _ (List.mem_append_right _ (List.mem_append_left _ h)))))) (yJ (Shows.mono (OwnS.shows (zw ho1_4 (zL tx.length 8).symm rfl)) (fun x h => (List.mem_append_right _ (List.mem_append_right _ (List.mem_append_right _ (List.mem_append_right _ (List.mem_append_left _ h))))))) (X9 _))))))) (Nat.le_of_ble_eq_true rfl) (by rw [hse]; omega)) (by rw [hse]; simp only [maxLen]; omega) (by rw [List.length_map, Nat.mul_one]) rfl rfl fun v1_5 oz1_5 ho1_5 => ?_
 refine (gt) ?_
 exact ⟨_, _, _, 5, rfl, yt, (zw ho1_5 (by rw [hse]) (by rw [hse])), rfl⟩
theorem z4C (f g : NN) : Fp G 204 #[.agg (arr .u8 16 f), .agg (arr .u8 16 g)] (.bool (decide (agr f g 16 = 0))) := by
 refine Qf1 Tryz.func204 ?_
 refine (g4)<|(Qh 0) fun r1=>(Qh 1) fun r2=>(g3)<|(gd)<|(jg) ?_
 refine QzK [(2, _), (3, _), (4, _)] [(0, _), (1, _)] (fun kk E m => ∃ (i : Nat), kk = 16 - i ∧ E = [(5, by8 (agr f g i)), (7, ii i)] ∧ m = [] ∧ (i ≤ 16)) ⟨0, rfl, rfl, rfl, by omega⟩ ⟨rfl, rfl, rfl, rfl, rfl, trivial⟩ ⟨rfl, rfl, trivial⟩ ?_
 rintro kk E m ⟨i, rfl, rfl, rfl, hf0_0⟩
 simp only [zo, zu]
 refine (gq) ?_
 refine (Qcd) (fun hc0=>?_) fun hc0=>?_
 ·have hc0 : i < 16 := by omega
  refine (jq)<|(g3)<|(Qg)<|(gb)<|(gv)<|(Qm)<|(Qi)<|(Q1 1) ?_
  refine vu rfl rfl rfl  ?_
  refine z6w rfl rfl rfl  ?_
  refine (jb) ?_
  refine QzL ⟨i + 1, rfl, rfl, rfl, by omega⟩ ⟨rfl, rfl, rfl, rfl, rfl, trivial⟩ ⟨rfl, rfl, trivial⟩ ?_
  omega
 ·have hz0 : i = 16 := by omega
  subst hz0
  refine Qe<|(g6)<|(Qc) ?_
  refine z6 (show _ = Value.bool (decide (agr f g 16 = 0)) from congrArg Value.bool (decide_eq_decide.2 (by omega))) ?_
  refine (gt) ?_
  exact ⟨_, rfl, yt⟩
theorem z7x (k nn : NN) (v : Value) (l : LN) (hk : L8 32 k) (hn : L8 12 nn) (hv : Sh G v l) (hl : l.length ≤ 1600) : Fq G [] 198 #[.agg (arr .u8 32 k), .agg (arr .u8 12 nn), v] (fun v l1 nw => l1 = [] ∧ ∃ v', v = v' ∧ OwnS 5 1 v' l.length ((Zc k 1 nn l 0).map by8) nw) := by
 refine QfN Tryz.func198 ?_
 refine (g4)<|(Qh 0) fun r1=>(Qh 1) fun r2=>(g3)<|Qs<|QR ⟨[], 4, [], none, none⟩<|(jo)<|(Qm) ?_
 refine zI 2 (fun v => .tuple #[v, ii 0]) rfl rfl (Un 223) za (zbm k 1 nn v l hv hk hn (by decide) (by omega) (by omega)) (by simp only [maxLen]; omega) (by rw [List.length_map, wA, Nat.mul_one]) rfl rfl fun v1_1 oz1_1 ho1_1 => ?_
 refine (gi)<|(g8)<|(g6)<|(gt) ?_
 exact ⟨_, _, _, 2, rfl, yt, ho1_1, rfl⟩
theorem z2O (k nn : NN) (va vt : Value) (ad tx : LN) (hva : Sh G va ad) (hvt : Sh G vt tx) (hk : L8 32 k) (hn : L8 12 nn) (hab : By ad) (htb : By tx) (hal : ad.length ≤ 10000) (htl : tx.length ≤ 10000) : Fp G 199 #[.agg (arr .u8 32 k), .agg (arr .u8 12 nn), va, vt] (.agg (arr .u8 16 (ptg (z1G k nn) (Z8 ad tx)))) := by
 have hml := WM ad tx
 refine Qf1 Tryz.func199 ?_
 refine (g4)<|(Qh 0) fun r1=>(Qh 1) fun r2=>(QH 2) fun r3=>(gl)<|(jo) ?_
 refine (Ca (z5T k 0 nn hk hn (by decide)))<|(QH 3) fun r4=>(Qt 3)<|Qn<|Qs<|(Qq ⟨[], 4, [], none, none⟩) ?_
 refine xo 0 32 (Uu 111) (Uz 5) rfl rfl rfl rfl ⟨_, rfl⟩ (by omega) (by omega) (by omega) rfl ?_
 refine z3b (Uu 30) rfl (by omega) rfl ?_
 refine (Qls 3) ?_
 refine z6 (congrArg Value.agg (zg (fun j _ => show Yi k 0 nn (0 + j) = z1G k nn j by rw [Nat.zero_add]; rfl))) ?_
 refine (gb) ?_
 refine zI 4 (fun v => v) rfl rfl (Un 226) za (z6v va vt ad tx hva hvt hal htl) (by simp only [maxLen]; omega) (by rw [List.length_map, Nat.mul_one]) rfl rfl fun v1_1 oz1_1 ho1_1 => ?_
 refine vr oz1_1.toList rfl rfl (Un 225) (z4D (i := 4) rfl) (zi1 (z1G k nn) _ (Z8 ad tx) (z9B k nn) (z6k hab htb) (by omega) ho1_1.shows) rfl rfl rfl ?_
 refine (Qt 2)<|Qn<|Qr ?_
 exact ⟨_, rfl, ya 2⟩
theorem z7A (k nn : NN) (va vt : Value) (ad tx : LN) (hva : Sh G va ad) (hvt : Sh G vt tx) (h : ad.length ≤ 200) (h2 : 816 < tx.length) : Fp G 176 #[.agg (arr .u8 32 k), .agg (arr .u8 12 nn), va, vt] (.tuple #[y4, ii 1]) := by
 refine Qf2 Tryz.func176 ?_
 refine (g4)<|(Qh 0) fun r1=>(Qh 1) fun r2=>(j3)<|(QC hva)<|(QG)<|(Qaf)<|(gm)<|(QC hvt)<|(Qy)<|(QG)<|(Qat)<|(QF)<|(gu)<|(g4)<|(gy) ?_
 exact ⟨_, _, rfl, yt, yt⟩
theorem z4y (k nn : NN) (va vt : Value) (ad tx : LN) (hva : Sh G va ad) (hvt : Sh G vt tx) (h : ad.length ≤ 200) (h2 : tx.length < 16) : Fp G 176 #[.agg (arr .u8 32 k), .agg (arr .u8 12 nn), va, vt] (.tuple #[y4, ii 4]) := by
 refine Qf2 Tryz.func176 ?_
 refine (g4)<|(Qh 0) fun r1=>(Qh 1) fun r2=>(j3)<|(QC hva)<|(QG)<|(Qaf)<|(gm)<|(QC hvt)<|(Qy)<|(QG)<|(Qaf)<|(QF)<|(gn)<|(ge)<|(QC hvt)<|(Ql)<|(Qat)<|(gu)<|(g4)<|(gy) ?_
 exact ⟨_, _, rfl, yt, yt⟩
theorem z7L (k nn : NN) (va vt : Value) (ad tx : LN) (hk : L8 32 k) (hn : L8 12 nn) (hva : Sh G va ad) (hvt : Sh G vt tx) (hab : By ad) (htb : By tx) (h : ad.length ≤ 200) (h2 : 16 ≤ tx.length) (h3 : tx.length ≤ 816) (ho : ¬ Xa k nn ad tx) : Fp G 176 #[.agg (arr .u8 32 k), .agg (arr .u8 12 nn), va, vt] (.tuple #[y4, ii 10]) := by
 have hv1 : Shows G 1 (yr 1 vt 0 (tx.length - 16)) (tx.take (tx.length - 16)).length ((tx.take (tx.length - 16)).map by8) := hvt.cut (by omega) (by omega) (by simp)
 have hv2 : Shows G 1 (yr 1 vt (tx.length - 16) tx.length) (tx.drop (tx.length - 16)).length ((tx.drop (tx.length - 16)).map by8) := hvt.cut (by omega) (by omega) (by rw [List.take_of_length_le (by simp)])
 refine Qf2 Tryz.func176 ?_
 refine (g4)<|(Qh 0) fun r1=>(Qh 1) fun r2=>(j3)<|(QC hva)<|(QG)<|(Qaf)<|(gm)<|(QC hvt)<|(Qy)<|(QG)<|(Qaf)<|(QF)<|(gn)<|(ge)<|(QC hvt)<|(Ql)<|(gw)<|(g6)<|(QC hvt) ?_
 refine yP (q := 16) rfl rfl rfl (by omega) (by omega) ?_
 refine (g3)<|Qs<|(gr)<|(gb) ?_
 refine yi (tx.length - 16) tx.length hvt (Uu 22) (Uz 5) rfl rfl rfl ⟨_, rfl⟩ rfl (by omega) (by omega) rfl ?_
 refine XL hv2 (Uu 213) rfl (by decide) (by rw [List.length_drop]; omega) rfl ?_
 refine wz hv2 za (Uu 213) rfl (Uz 213) rfl (by decide) (by simp; omega) rfl rfl ?_
 refine z6 (z0b (by rw [List.length_drop]; omega)) ?_
 refine (jo)<|(gb)<|(Qm) ?_
 refine yi 0 (tx.length - 16) hvt (Uu 22) (Uz 5) rfl rfl rfl rfl ⟨_, rfl⟩ (by omega) (by omega) rfl ?_
 refine z9 rfl (Un 199) (z2O k nn va _ ad (tx.take (tx.length - 16)) hva hv1 hk hn hab (fun x hx => htb x (List.mem_of_mem_take hx)) (by omega) (by simp; omega)) rfl rfl ?_
 refine (Ca (z4C _ _)) ?_
 refine z6 (congrArg Value.bool (decide_eq_false (fun e => ho ((z2M k nn h2 htb).1 e)))) ?_
 refine (Q0)<|(gu)<|(g4)<|(gy) ?_
 exact ⟨_, _, rfl, yt, yt⟩
theorem zcN (k nn : NN) (va vt : Value) (ad tx : LN) (hk : L8 32 k) (hn : L8 12 nn) (hva : Sh G va ad) (hvt : Sh G vt tx) (hab : By ad) (htb : By tx) (h : ad.length ≤ 200) (h2 : 16 ≤ tx.length) (h3 : tx.length ≤ 816) (ho : Xa k nn ad tx) : Fq G [] 176 #[.agg (arr .u8 32 k), .agg (arr .u8 12 nn), va, vt] (R2 5 (X0 k nn tx)) := by
 have hv1 : Shows G 1 (yr 1 vt 0 (tx.length - 16)) (tx.take (tx.length - 16)).length ((tx.take (tx.length - 16)).map by8) := hvt.cut (by omega) (by omega) (by simp)
 have hv2 : Shows G 1 (yr 1 vt (tx.length - 16) tx.length) (tx.drop (tx.length - 16)).length ((tx.drop (tx.length - 16)).map by8) := hvt.cut (by omega) (by omega) (by rw [List.take_of_length_le (by simp)])
 have htl : (tx.take (tx.length - 16)).length = tx.length - 16 := by simp
 have hol := wh k nn tx
 refine QfM Tryz.func176 ?_
 refine (g4)<|(Qh 0) fun r1=>(Qh 1) fun r2=>(j3)<|(QC hva)<|(QG)<|(Qaf)<|(gm)<|(QC hvt)<|(Qy)<|(QG)<|(Qaf)<|(QF)<|(gn)<|(ge)<|(QC hvt)<|(Ql)<|(gw)<|(g6)<|(QC hvt) ?_
 refine yP (q := 16) rfl rfl rfl (by omega) (by omega) ?_
 refine (g3)<|Qs<|(gr)<|(gb) ?_
 refine yi (tx.length - 16) tx.length hvt (Uu 22) (Uz 5) rfl rfl rfl ⟨_, rfl⟩ rfl (by omega) (by omega) rfl ?_
 refine XL hv2 (Uu 213) rfl (by decide) (by rw [List.length_drop]; omega) rfl ?_
 refine wz hv2 za (Uu 213) rfl (Uz 213) rfl (by decide) (by simp; omega) rfl rfl ?_
 refine z6 (z0b (by rw [List.length_drop]; omega)) ?_
 refine (jo)<|(gb)<|(Qm) ?_
 refine yi 0 (tx.length - 16) hvt (Uu 22) (Uz 5) rfl rfl rfl rfl ⟨_, rfl⟩ (by omega) (by omega) rfl ?_
 refine z9 rfl (Un 199) (z2O k nn va _ ad (tx.take (tx.length - 16)) hva hv1 hk hn hab (fun x hx => htb x (List.mem_of_mem_take hx)) (by omega) (by simp; omega)) rfl rfl ?_
 refine (Ca (z4C _ _)) ?_
 refine z6 (congrArg Value.bool (decide_eq_true ((z2M k nn h2 htb).2 ho))) ?_
 refine (Q0)<|(gn)<|Qs<|(Qq ⟨[], 4, [], none, none⟩)<|(jo)<|(gb) ?_
 refine yi 0 (tx.length - 16) hvt (Uu 22) (Uz 5) rfl rfl rfl rfl ⟨_, rfl⟩ (by omega) (by omega) rfl ?_
 refine zI 2 (fun v => v) rfl rfl (Un 198) za (z7x k nn _ (tx.take (tx.length - 16)) hk hn hv1 (by omega)) (by simp only [maxLen]; omega) (by rw [List.length_map, wA, Nat.mul_one, Nat.sub_zero]) rfl rfl fun v4_1 oz4_1 ho4_1 => ?_
 refine (gy) ?_
 exact ⟨_, _, _, _, 2, rfl, yt, yt, (zw ho4_1 (by rw [htl, hol]) rfl), rfl⟩
theorem z5D (f : NN) : Fp G 188 #[.agg (arr .u8 32 f)] (CV true f 0) := by
 refine Qf1 Tryz.func188 ?_
 refine (g4)<|(Qh 0) fun r1=>(QH 1) fun r2=>(gl)<|(Qd 0) ?_
 refine zC (cells 34 [pV (.bool true), pI .u8 32 f, pV (u 0)]) (Ub 33 rfl) (Uu 33 rfl) vL rfl (by kernel_rfl) rfl ?_
 refine (QW 1)<|Qn<|Qr ?_
 exact ⟨_, rfl, yb 1⟩
theorem Zy (has : Bool) (k : NN) (n : Nat) : Fp G 195 #[CV has k n] (ii (if okC has k n = true then 0 else 9)) := by
 refine Qf1 Tryz.func195 ?_
 refine (g4)<|(Qh 0) fun r1=>(g3)<|Qs<|Qs ?_
 rcases zcA has k n with ⟨hk0, hko⟩ | ⟨hk0, hk1, hko⟩ | ⟨hk0, hk1, hk2, hko⟩ | ⟨hk0, hk1, hk2, hko⟩
 ·skip
  refine Qp<|(jj)<|(Q0) ?_
  refine z6 (congrArg (fun z => Value.bool (!z)) hk0) ?_
  refine (Qm)<|(gx)<|(QF)<|(gn)<|(j4) ?_
  rw [hko]
  exact ⟨_, rfl, yt⟩
 ·skip
  refine Qp<|(jj)<|(Q0) ?_
  refine z6 (congrArg (fun z => Value.bool (!z)) hk0) ?_
  refine (g7)<|(QD 0)<|(Qy) ?_
  refine zC (cells 34 [pV (.bool false), pI .u8 32 (fun _ => 0), pV (.int .u64 0)]) (Ub 33 rfl) (Uu 33 rfl) vL rfl (by kernel_rfl) rfl ?_
  refine (Qy) ?_
  refine zdH zeR zfw rfl rfl rfl ?_
  refine (Ab (((congrArg (fun z => !([(z == false), zO 32 k (fun _ => 0), ((n : Int) == 0)].all id)) hk0).trans (z6n k n)).trans (congrArg (fun z => !z) (hk0 ▸ hko))))<|(QT)<|(gu)<|(j4) ?_
  rw [hko]
  exact ⟨_, rfl, yt⟩
 ·skip
  refine Qp<|(jj)<|(Q0) ?_
  refine z6 (congrArg (fun z => Value.bool (!z)) hk0) ?_
  refine (g7)<|(QD 0)<|(Qy) ?_
  refine zC (cells 34 [pV (.bool false), pI .u8 32 (fun _ => 0), pV (.int .u64 0)]) (Ub 33 rfl) (Uu 33 rfl) vL rfl (by kernel_rfl) rfl ?_
  refine (Qy) ?_
  refine zdH zeR zfw rfl rfl rfl ?_
  refine (Ab (((congrArg (fun z => !([(z == false), zO 32 k (fun _ => 0), ((n : Int) == 0)].all id)) hk0).trans (z6n k n)).trans (congrArg (fun z => !z) (hk0 ▸ hko))))<|(QT)<|(gu)<|(j4) ?_
  rw [hko]
  exact ⟨_, rfl, yt⟩
 ·skip
  refine Qp<|(jj)<|(Q0) ?_
  refine z6 (congrArg (fun z => Value.bool (!z)) hk0) ?_
  refine (g7)<|(QD 0)<|(Qy) ?_
  refine zC (cells 34 [pV (.bool false), pI .u8 32 (fun _ => 0), pV (.int .u64 0)]) (Ub 33 rfl) (Uu 33 rfl) vL rfl (by kernel_rfl) rfl ?_
  refine (Qy) ?_
  refine zdH zeR zfw rfl rfl rfl ?_
  refine (Ab (((congrArg (fun z => !([(z == false), zO 32 k (fun _ => 0), ((n : Int) == 0)].all id)) hk0).trans (z6n k n)).trans (congrArg (fun z => !z) (hk0 ▸ hko))))<|(QT)<|(gn)<|(j4) ?_
  rw [hko]
  exact ⟨_, rfl, yt⟩
theorem z1W (n : Nat) : Fp G 197 #[u n] (.agg (arr .u8 12 (xy n))) := by
 refine Qf1 Tryz.func197 ?_
 refine (g4)<|(QH 0) fun r1=>(gl)<|(QH 1) fun r2=>Qn<|(jg) ?_
 refine QzK [(0, _), (2, _), (3, _)] [(0, _)] (fun kk E m => ∃ (i : Nat) (s : Nat → Nat), kk = 8 - i ∧ E = [(5, ii i)] ∧ m = [(1, some ⟨r2, arr .u8 12 s, 146⟩)] ∧ (i ≤ 8) ∧ (∀ t, t < 12 → s t = if t < 4 + i then xy n t else 0)) ⟨0, fun _ => 0, rfl, rfl, rfl, by omega, (zb0 n)⟩ ⟨rfl, rfl, rfl, rfl, trivial⟩ ⟨rfl, rfl, trivial⟩ ?_
 rintro kk E m ⟨i, s, rfl, rfl, rfl, hf0_0, hf0_1⟩
 simp only [zo, zu]
 refine (gq) ?_
 refine (Qcd) (fun hc0=>?_) fun hc0=>?_
 ·have hc0 : i < 8 := by omega
  refine (jq)<|(g3)<|(j0) ?_
  refine zY (p := 4) rfl rfl rfl (by omega) ?_
  refine (gb)<|(Q7 8) ?_
  refine YY rfl rfl rfl (by omega) ?_
  refine x8 (Uu 31) (Uu 5) rfl rfl rfl ?_
  refine (Qi)<|(Qu 1)<|(jc) ?_
  refine QzL ⟨i + 1, upd s (4 + i) _, rfl, rfl, rfl, by omega, (zfR hf0_1 rfl)⟩ ⟨rfl, rfl, rfl, rfl, trivial⟩ ⟨rfl, rfl, trivial⟩ ?_
  omega
 ·have hz0 : i = 8 := by omega
  subst hz0
  refine (jn)<|(Qd 1) ?_
  refine (Aa (zex rfl hf0_1))<|(Qt 0)<|Qn<|Qr ?_
  exact ⟨_, rfl, ya 0⟩
theorem z6R (k : NN) (n : Nat) (vt : Value) (tx : LN) (hvt : Sh G vt tx) (hl : 800 < tx.length) : Fp G 196 #[CV false k n, vt] (.tuple #[CZ, y4, ii 1]) := by
 refine Qf3 Tryz.func196 ?_
 refine (g4)<|(Qh 0) fun r1=>(QH 1) fun r2=>(j3)<|(QC hvt)<|(QG)<|(Qat)<|(gu)<|(g4) ?_
 refine zC (cells 34 [pV (.bool false), pI .u8 32 (fun _ => 0), pV (.int .u64 0)]) (Ub 33 rfl) (Uu 33 rfl) vL rfl (by kernel_rfl) rfl ?_
 refine (QW 1)<|(gy) ?_
 exact ⟨_, _, _, rfl, yb 1, yt, yt⟩
theorem za3 (k : NN) (n : Nat) (vt : Value) (tx : LN) (hvt : Sh G vt tx) (hl : tx.length ≤ 800) : Fq G [] 196 #[CV false k n, vt] (fun v l1 nw => l1 = [] ∧ ∃ v', v = .tuple #[CV false k n, v', ii 0] ∧ OwnS 5 1 v' tx.length (tx.map by8) nw) := by
 refine QfO Tryz.func196 ?_
 refine (g4)<|(Qh 0) fun r1=>(QH 1) fun r2=>(j3)<|(QC hvt)<|(QG)<|(gw)<|Qs<|(Qq ⟨[r2], 1, [], (some [r1]), none⟩) ?_
 refine zV (i := 0) (Uu 33) rfl (Uz 33) rfl rfl (z3 _ _) rfl ⟨[1], ⟨rfl, rfl, trivial⟩, _, rfl, by simp⟩ ?_
 refine vJ 2 (Uu 22 rfl) (Uz 5 rfl) rfl fun r3 => ?_
 refine (Qm) ?_
 refine z2F 2 Yo hvt rfl (fun q hq => .inl hq) ⟨[0], rfl, rfl, trivial⟩ (Uu 22) (Uz 5) (Uy 5) (Ub 5) (by rfl) rfl rfl W0 (by simp only [maxLen]; omega) (by omega) rfl fun v2_1 oz2_1 ho2_1 => ?_
 refine z4 (i := 1) (Uz 33) rfl rfl (z3 _ _) (YO ⟨fun _ => rfl, fun _ => rfl, fun _ => rfl, trivial⟩) rfl z7 (.inr (by simp)) ?_
 refine (gy) ?_
 exact ⟨_, _, _, _, _, 2, rfl, yb 1, yt, yt, (zw ho2_1 (by omega) rfl), rfl⟩
theorem zav (x : Nat) : Fp G 206 #[uw x, .int .i64 (-16)] (uw (wl x 16)) := by
 refine Qf1 Tryz.func206 ?_
 refine (gd)<|(g6) ?_
 refine YT (Uu 3) (Uu 158) rfl rfl rfl ?_
 refine (Av (u 18446744073709551600))<|(Q9 31) ?_
 refine (Av (u 16))<|(go)<|(Qm) ?_
 refine vw rfl rfl rfl (by omega) ?_
 refine (gb) ?_
 refine xV (p := 32) rfl rfl rfl (by omega) ?_
 refine (Av (u 16)) ?_
 refine vX rfl rfl rfl (by omega) ?_
 refine Y0 rfl rfl rfl  ?_
 refine (gt) ?_
 exact ⟨_, rfl, yt⟩
theorem zat (x : Nat) : Fp G 206 #[uw x, .int .i64 (-12)] (uw (wl x 20)) := by
 refine Qf1 Tryz.func206 ?_
 refine (gd)<|(g6) ?_
 refine YT (Uu 3) (Uu 158) rfl rfl rfl ?_
 refine (Av (u 18446744073709551604))<|(Q9 31) ?_
 refine (Av (u 20))<|(go)<|(Qm) ?_
 refine vw rfl rfl rfl (by omega) ?_
 refine (gb) ?_
 refine xV (p := 32) rfl rfl rfl (by omega) ?_
 refine (Av (u 12)) ?_
 refine vX rfl rfl rfl (by omega) ?_
 refine Y0 rfl rfl rfl  ?_
 refine (gt) ?_
 exact ⟨_, rfl, yt⟩
theorem zeU (x : Nat) : Fp G 206 #[uw x, .int .i64 (-8)] (uw (wl x 24)) := by
 refine Qf1 Tryz.func206 ?_
 refine (gd)<|(g6) ?_
 refine YT (Uu 3) (Uu 158) rfl rfl rfl ?_
 refine (Av (u 18446744073709551608))<|(Q9 31) ?_
 refine (Av (u 24))<|(go)<|(Qm) ?_
 refine vw rfl rfl rfl (by omega) ?_
 refine (gb) ?_
 refine xV (p := 32) rfl rfl rfl (by omega) ?_
 refine (Av (u 8)) ?_
 refine vX rfl rfl rfl (by omega) ?_
 refine Y0 rfl rfl rfl  ?_
 refine (gt) ?_
 exact ⟨_, rfl, yt⟩
theorem zdv (x : Nat) : Fp G 206 #[uw x, .int .i64 (-7)] (uw (wl x 25)) := by
 refine Qf1 Tryz.func206 ?_
 refine (gd)<|(g6) ?_
 refine YT (Uu 3) (Uu 158) rfl rfl rfl ?_
 refine (Av (u 18446744073709551609))<|(Q9 31) ?_
 refine (Av (u 25))<|(go)<|(Qm) ?_
 refine vw rfl rfl rfl (by omega) ?_
 refine (gb) ?_
 refine xV (p := 32) rfl rfl rfl (by omega) ?_
 refine (Av (u 7)) ?_
 refine vX rfl rfl rfl (by omega) ?_
 refine Y0 rfl rfl rfl  ?_
 refine (gt) ?_
 exact ⟨_, rfl, yt⟩
theorem zjf (f : NN) (r a b c d x y : Nat) (ha : a < 16) (hb : b < 16) (hc : c < 16) (hd : d < 16) : Fq G [⟨r, arr .u32 16 f, 216⟩] 205 #[ii a, ii b, ii c, ii d, uw x, uw y, ptr r] (fun v l1 nw => v = .tuple #[] ∧ l1 = [⟨r, arr .u32 16 (mst f a b c d x y), 216⟩] ∧ nw = []) := by
 refine QfW Tryz.func205 ?_
 refine (gr)<|(Qm)<|(gv)<|(Qm)<|(gv)<|(Qm)<|(Qaw)<|(Qaw)<|(ji)<|(jf)<|(gb)<|(gv)<|(Qm)<|(gv)<|(Qxw) ?_
 refine (Ca (zav _))<|(ji)<|(jf)<|(Qm)<|(gv)<|(Qm)<|(gv)<|(Qaw)<|(ji)<|(jf)<|(gb)<|(gv)<|(Qm)<|(gv)<|(Qxw) ?_
 refine (Ca (zat _))<|(ji)<|(jf)<|(Qm)<|(gv)<|(Qm)<|(gv)<|(Qm)<|(Qaw)<|(Qaw)<|(ji)<|(jf)<|(gb)<|(gv)<|(Qm)<|(gv)<|(Qxw) ?_
 refine (Ca (zeU _))<|(ji)<|(jf)<|(Qm)<|(gv)<|(Qm)<|(gv)<|(Qaw)<|(ji)<|Qn<|(Qg)<|(gb)<|(gv)<|(Qm)<|(gv)<|(Qxw) ?_
 refine (Ca (zdv _))<|(ji)<|Qn ?_
 exact ⟨rfl, 0, rfl⟩
theorem zcz {G : Mem} (f : NN) (r a b c d x y : Nat) (ha : a < 16) (hb : b < 16) (hc : c < 16) (hd : d < 16) (ab : a ≠ b) (ac : a ≠ c) (ad : a ≠ d) (bc : b ≠ c) (bd : b ≠ d) (cd : c ≠ d) : Fq G [⟨r, arr .u32 16 f, 216⟩] 205 #[ii a, ii b, ii c, ii d, uw x, uw y, ptr r] (fun v l1 nw => v = .tuple #[] ∧ l1 = [⟨r, arr .u32 16 (mat f a b c d x y), 216⟩] ∧ nw = []) := by
 rw [← zgG f x y ab ac ad bc bd cd]
 exact zjf f r a b c d x y ha hb hc hd
abbrev DOR : Blk := ⟨5, arr .i64 160 sgf, 256⟩
theorem z1m (f g : NN) : Fp (DOR :: G) 177 #[.agg (arr .u32 16 f), .agg (arr .u32 16 g)] (.agg (arr .u32 16 (wU g f 10))) := by
 refine Qf1 Tryz.func177 ?_
 refine (g4)<|(Qh 0) fun r1=>(Qh 1) fun r2=>(QH 2) fun r3=>(gl)<|(QY)<|(g3)<|(jg) ?_
 refine QzK [(2, _), (3, _), (4, _), (5, _)] [(1, _), (2, _)] (fun kk E m => ∃ (r : Nat), kk = 10 - r ∧ E = [(10, ii r)] ∧ m = [(0, some ⟨r1, arr .u32 16 (wU g f r), 216⟩)] ∧ (r ≤ 10)) ⟨0, rfl, rfl, rfl, by omega⟩ ⟨rfl, rfl, rfl, rfl, rfl, trivial⟩ ⟨(xX (z9W g f)), rfl, rfl, trivial⟩ ?_
 rintro kk E m ⟨r, rfl, rfl, rfl, hf0_0⟩
 simp only [zo, zu]
 refine (gq) ?_
 refine (Qcd) (fun hc0=>?_) fun hc0=>?_
 ·have hc0 : r < 10 := by omega
  refine (jq)<|(g3)<|(jg) ?_
  refine QzK [(2, _), (3, _), (4, _), (5, _), (6, _), (10, _)] [(1, _), (2, _)] (fun kk E m => ∃ (i : Nat), kk = 4 - i ∧ E = [(13, ii i)] ∧ m = [(0, some ⟨r1, arr .u32 16 (Zi g r (wU g f r) i), 216⟩)] ∧ (i ≤ 4)) ⟨0, rfl, rfl, rfl, by omega⟩ ⟨rfl, rfl, rfl, rfl, rfl, rfl, rfl, trivial⟩ ⟨(xX (z9G g r (wU g f r))), rfl, rfl, trivial⟩ ?_
  rintro kk E m ⟨i, rfl, rfl, rfl, hf1_0⟩
  simp only [zo, zu]
  refine (gq) ?_
  refine (Qcd) (fun hc1=>?_) fun hc1=>?_
  ·have hc1 : i < 4 := by omega
   refine (jq)<|(g3)<|(Qq ⟨[], 5, [], none, none⟩)<|(gb)<|(Qm) ?_
   refine zY (p := 4) rfl rfl rfl (by omega) ?_
   refine (Qm) ?_
   refine zY (p := 8) rfl rfl rfl (by omega) ?_
   refine (Qm) ?_
   refine zY (p := 12) rfl rfl rfl (by omega) ?_
   refine (gb)<|(Q7 2)<|(QB (16 * r))<|(QB (16 * r + 2 * i)) ?_
   refine yo (i := 0) (Uu 3) rfl rfl rfl (zP (by omega)) rfl ?_
   refine ZA (Uu 216) (Uz 109) rfl rfl (wF r (2 * i)) rfl ?_
   refine y6 (i := 1) (Uu 109) rfl rfl rfl (zP (wF r (2 * i))) rfl ⟨[], trivial⟩ ?_
   refine (gb)<|(Q7 2)<|(Q2 1)<|(QB (16 * r))<|(QB (16 * r + (2 * i + 1))) ?_
   refine yo (i := 0) (Uu 3) rfl rfl rfl (zP (by omega)) rfl ?_
   refine ZA (Uu 216) (Uz 109) rfl rfl (wF r (2 * i + 1)) rfl ?_
   refine y6 (i := 1) (Uu 109) rfl rfl rfl (zP (wF r (2 * i + 1))) rfl ⟨[], trivial⟩ ?_
   refine VR 0 rfl rfl (Un 205) rfl (by simp) (zcz (G := []) (Zi g r (wU g f r) i) r1 i (4 + i) (8 + i) (12 + i) (g (sig r (2 * i))) (g (sig r (2 * i + 1))) (by omega) (by omega) (by omega) (by omega) (by omega) (by omega) (by omega) (by omega) (by omega) (by omega)) rfl rfl ?_
   refine (jc) ?_
   refine QzL ⟨i + 1, rfl, rfl, rfl, by omega⟩ ⟨rfl, rfl, rfl, rfl, rfl, rfl, rfl, trivial⟩ ⟨(xX (zbe g r (wU g f r) i)), rfl, rfl, trivial⟩ ?_
   omega
  ·have hz1 : i = 4 := by omega
   refine Qe<|(g6)<|Qn<|Qb ?_
   refine QzK [(2, _), (3, _), (4, _), (5, _), (6, _), (10, _), (13, _)] [(1, _), (2, _)] (fun kk E m => ∃ (j : Nat), kk = 4 - j ∧ E = [(43, ii j)] ∧ m = [(0, some ⟨r1, arr .u32 16 (ww g r (Zi g r (wU g f r) 4) j), 216⟩)] ∧ (j ≤ 4)) ⟨0, rfl, rfl, rfl, by omega⟩ ⟨rfl, rfl, rfl, rfl, rfl, rfl, rfl, rfl, trivial⟩ ⟨(xX ((congrArg (Zi g r (wU g f r)) hz1).trans (zbK g r (Zi g r (wU g f r) 4)))), rfl, rfl, trivial⟩ ?_
   rintro kk E m ⟨j, rfl, rfl, rfl, hf2_0⟩
   simp only [zo, zu]
   refine (gq) ?_
   refine (Qcd) (fun hc2=>?_) fun hc2=>?_
   ·have hc2 : j < 4 := by omega
    refine (jq)<|(g3)<|(Qq ⟨[], 5, [], none, none⟩)<|(gb)<|(Qm)<|(Q2 1)<|(Q4 4) ?_
    refine zY (p := 4) rfl rfl rfl (by omega) ?_
    refine (Qm)<|(Q2 2)<|(Q4 4) ?_
    refine zY (p := 8) rfl rfl rfl (by omega) ?_
    refine (Qm)<|(Q2 3)<|(Q4 4) ?_
    refine zY (p := 12) rfl rfl rfl (by omega) ?_
    refine (gb)<|(Q7 2) ?_
    refine zY (p := 8) rfl rfl rfl (by omega) ?_
    refine (QB (16 * r))<|(QB (16 * r + (8 + 2 * j))) ?_
    refine yo (i := 0) (Uu 3) rfl rfl rfl (zP (by omega)) rfl ?_
    refine ZA (Uu 216) (Uz 109) rfl rfl (wF r (8 + 2 * j)) rfl ?_
    refine y6 (i := 1) (Uu 109) rfl rfl rfl (zP (wF r (8 + 2 * j))) rfl ⟨[], trivial⟩ ?_
    refine (gb)<|(Q7 2) ?_
    refine zY (p := 9) rfl rfl rfl (by omega) ?_
    refine (QB (16 * r))<|(QB (16 * r + (9 + 2 * j))) ?_
    refine yo (i := 0) (Uu 3) rfl rfl rfl (zP (by omega)) rfl ?_
    refine ZA (Uu 216) (Uz 109) rfl rfl (wF r (9 + 2 * j)) rfl ?_
    refine y6 (i := 1) (Uu 109) rfl rfl rfl (zP (wF r (9 + 2 * j))) rfl ⟨[], trivial⟩ ?_
    refine VR 0 rfl rfl (Un 205) rfl (by simp) (zcz (G := []) (ww g r (Zi g r (wU g f r) 4) j) r1 j (4 + (j + 1) % 4) (8 + (j + 2) % 4) (12 + (j + 3) % 4) (g (sig r (8 + 2 * j))) (g (sig r (9 + 2 * j))) (by omega) (by omega) (by omega) (by omega) (by omega) (by omega) (by omega) (by omega) (by omega) (by omega)) rfl rfl ?_
    refine (jc) ?_
    refine QzL ⟨j + 1, rfl, rfl, rfl, by omega⟩ ⟨rfl, rfl, rfl, rfl, rfl, rfl, rfl, rfl, trivial⟩ ⟨(xX (z9Y g r (Zi g r (wU g f r) 4) j)), rfl, rfl, trivial⟩ ?_
    omega
   ·have hz2 : j = 4 := by omega
    refine Qe<|(gk) ?_
    refine QzL ⟨r + 1, rfl, rfl, rfl, by omega⟩ ⟨rfl, rfl, rfl, rfl, rfl, trivial⟩ ⟨(xX ((congrArg (ww g r (Zi g r (wU g f r) 4)) hz2).trans (zb1 g f r))), rfl, rfl, trivial⟩ ?_
    omega
 ·have hz0 : r = 10 := by omega
  refine (jn)<|(Qd 0)<|(Qt 2)<|Qn<|Qr ?_
  rw [show wU g f 10 = wU g f r by rw [hz0]]
  exact ⟨_, rfl, ya 2⟩
theorem z4p (d : NN) (hd : L8 64 d) : Fp G 179 #[.agg (arr .u8 64 d)] (.agg (arr .u32 16 (wrd ((List.range 64).map d)))) := by
 refine Qf1 Tryz.func179 ?_
 refine (g4)<|(Qh 0) fun r1=>(QH 1) fun r2=>(gl)<|(QH 2) fun r3=>Qn<|(gs)<|(Qd 0)<|(Qm)<|Qn<|Qb ?_
 refine QzK [(2, _), (3, _), (6, _)] [(0, _), (1, _)] (fun kk E m => ∃ (i : Nat) (s : Nat → Nat), kk = 64 - i ∧ E = [(7, ii i)] ∧ m = [(2, some ⟨r3, arr .u32 16 s, 216⟩)] ∧ (i ≤ 64) ∧ (∀ t, t < 16 → s t = pw d i t)) ⟨0, fun _ => 0, rfl, rfl, rfl, by omega, fun t _ => (z87 d t).symm⟩ ⟨rfl, rfl, rfl, rfl, trivial⟩ ⟨rfl, rfl, rfl, trivial⟩ ?_
 rintro kk E m ⟨i, s, rfl, rfl, rfl, hf0_0, hf0_1⟩
 simp only [zo, zu]
 refine (gq) ?_
 refine (Qcd) (fun hc0=>?_) fun hc0=>?_
 ·have hc0 : i < 64 := by omega
  refine (jq)<|(QX)<|(g8)<|(Qg)<|(Qm)<|(Q5 4)<|(Qi)<|(Q1 2)<|(Qm)<|(Qcw) ?_
  refine z6 (congrArg uw (Nat.mod_eq_of_lt (Nat.lt_trans (hd i (by omega)) (by decide)))) ?_
  refine (Qm)<|(Q4 4)<|(Q6 8) ?_
  refine vw rfl rfl rfl (by omega) ?_
  refine Y0 rfl rfl rfl  ?_
  refine (Qi)<|(Qu 2)<|(jc) ?_
  refine QzL ⟨i + 1, upd s (i / 4) _, rfl, rfl, rfl, by omega, z7N hd (by omega) hf0_1⟩ ⟨rfl, rfl, rfl, rfl, trivial⟩ ⟨rfl, rfl, rfl, trivial⟩ ?_
  omega
 ·have hz0 : i = 64 := by omega
  subst hz0
  refine (jn)<|(Qd 2)<|(ja)<|Qr ?_
  rw [← zg (k := .u32) (n := 16) (zaB d), ← zg (k := .u32) (n := 16) hf0_1]
  exact ⟨_, rfl, ya 1⟩
theorem z7E : Fp G 142 #[] (.agg (arr .u32 8 ivf)) := by
 refine Qf1 Tryz.func142 ?_
 refine (g4)<|(QH 0) fun r1=>(gl) ?_
 refine zX (arr .u32 8 ivf) (Ub 110 rfl) (Uu 110 rfl) (Uz 109 rfl) rfl (by kernel_rfl) rfl ?_
 refine (Qt 0)<|Qn<|Qr ?_
 exact ⟨_, rfl, ya 0⟩
theorem z5w (h d : NN) (n ln : Nat) (hl : ln < 4294967296) : Fp G 178 #[.agg (cells 74 [pI .u32 8 h, pI .u8 64 d, pV (.int .i64 (n : Int)), pV (.int .i64 (ln : Int))]), .bool true] (.agg (arr .u32 16 (w0 h ln true))) := by
 refine Qf1 Tryz.func178 ?_
 refine (g4)<|(Qh 0) fun r1=>(QH 1) fun r2=>(gl)<|(QH 2) fun r3=>Qn<|(gs) ?_
 refine (Ca z7E)<|(Qm)<|Qn<|Qb ?_
 refine QzK [(1, _), (2, _), (4, _), (5, _), (8, _)] [(0, _), (1, _)] (fun kk E m => ∃ (i : Nat) (s : Nat → Nat), kk = 8 - i ∧ E = [(9, ii i)] ∧ m = [(2, some ⟨r3, arr .u32 16 s, 216⟩)] ∧ (i ≤ 8) ∧ (∀ t, t < 16 → s t = if t % 8 < i then w00 h t else 0)) ⟨0, fun _ => 0, rfl, rfl, rfl, by omega, fun t _ => by rw [if_neg (by omega)]⟩ ⟨rfl, rfl, rfl, rfl, rfl, rfl, trivial⟩ ⟨rfl, rfl, rfl, trivial⟩ ?_
 rintro kk E m ⟨i, s, rfl, rfl, rfl, hf0_0, hf0_1⟩
 simp only [zo, zu]
 refine (gq) ?_
 refine (Qcd) (fun hc0=>?_) fun hc0=>?_
 ·have hc0 : i < 8 := by omega
  refine (jq)<|(QX)<|(g8)<|Qp<|(gb) ?_
  refine zY (p := 8) rfl rfl rfl (by omega) ?_
  refine (Qm)<|(Qf 0)<|(Qi) ?_
  refine z2H (i := 0) 0 (i) (Uu 109) rfl rfl rfl rfl (by first | rfl | omega) (by omega) (by omega) rfl ⟨[], trivial⟩ ?_
  refine (Qm)<|(Qi)<|(Qu 2)<|(Qi)<|(Qu 2)<|(jc) ?_
  refine QzL ⟨i + 1, upd (upd s i _) (8 + i) _, rfl, rfl, rfl, by omega, XA (by omega) hf0_1⟩ ⟨rfl, rfl, rfl, rfl, rfl, rfl, trivial⟩ ⟨rfl, rfl, rfl, trivial⟩ ?_
  omega
 ·have hz0 : i = 8 := by omega
  subst hz0
  refine (jn)<|(Qj 12)<|(Q1 2)<|(Qf 73)<|(QV 3 0)<|(Qcw)<|(Qxw)<|(Qj 12)<|(Qu 2)<|(gl)<|(Qj 13)<|(Q1 2)<|(Qf 73)<|(QV 3 0) ?_
  refine z2V (s := 32) rfl rfl rfl (by omega) ?_
  refine (Ai (show ln / 2 ^ 32 = 0 by omega))<|(Qcw)<|(Qxw)<|(Qj 13)<|(Qu 2)<|Qn<|(ge)<|(gu)<|Qp<|(Qj 14)<|(Q1 2) ?_
  refine z1J rfl rfl ?_
  refine (Qj 14)<|(Qu 2)<|(gl)<|(Qd 2)<|(ja)<|Qr ?_
  rw [← zg (zfa hf0_1)]
  exact ⟨_, rfl, ya 1⟩
theorem z2U (h d : NN) (n ln : Nat) (hl : ln < 4294967296) : Fp G 178 #[.agg (cells 74 [pI .u32 8 h, pI .u8 64 d, pV (.int .i64 (n : Int)), pV (.int .i64 (ln : Int))]), .bool false] (.agg (arr .u32 16 (w0 h ln false))) := by
 refine Qf1 Tryz.func178 ?_
 refine (g4)<|(Qh 0) fun r1=>(QH 1) fun r2=>(gl)<|(QH 2) fun r3=>Qn<|(gs) ?_
 refine (Ca z7E)<|(Qm)<|Qn<|Qb ?_
 refine QzK [(1, _), (2, _), (4, _), (5, _), (8, _)] [(0, _), (1, _)] (fun kk E m => ∃ (i : Nat) (s : Nat → Nat), kk = 8 - i ∧ E = [(9, ii i)] ∧ m = [(2, some ⟨r3, arr .u32 16 s, 216⟩)] ∧ (i ≤ 8) ∧ (∀ t, t < 16 → s t = if t % 8 < i then w00 h t else 0)) ⟨0, fun _ => 0, rfl, rfl, rfl, by omega, fun t _ => by rw [if_neg (by omega)]⟩ ⟨rfl, rfl, rfl, rfl, rfl, rfl, trivial⟩ ⟨rfl, rfl, rfl, trivial⟩ ?_
 rintro kk E m ⟨i, s, rfl, rfl, rfl, hf0_0, hf0_1⟩
 simp only [zo, zu]
 refine (gq) ?_
 refine (Qcd) (fun hc0=>?_) fun hc0=>?_
 ·have hc0 : i < 8 := by omega
  refine (jq)<|(QX)<|(g8)<|Qp<|(gb) ?_
  refine zY (p := 8) rfl rfl rfl (by omega) ?_
  refine (Qm)<|(Qf 0)<|(Qi) ?_
  refine z2H (i := 0) 0 (i) (Uu 109) rfl rfl rfl rfl (by first | rfl | omega) (by omega) (by omega) rfl ⟨[], trivial⟩ ?_
  refine (Qm)<|(Qi)<|(Qu 2)<|(Qi)<|(Qu 2)<|(jc) ?_
  refine QzL ⟨i + 1, upd (upd s i _) (8 + i) _, rfl, rfl, rfl, by omega, XA (by omega) hf0_1⟩ ⟨rfl, rfl, rfl, rfl, rfl, rfl, trivial⟩ ⟨rfl, rfl, rfl, trivial⟩ ?_
  omega
 ·have hz0 : i = 8 := by omega
  subst hz0
  refine (jn)<|(Qj 12)<|(Q1 2)<|(Qf 73)<|(QV 3 0)<|(Qcw)<|(Qxw)<|(Qj 12)<|(Qu 2)<|(gl)<|(Qj 13)<|(Q1 2)<|(Qf 73)<|(QV 3 0) ?_
  refine z2V (s := 32) rfl rfl rfl (by omega) ?_
  refine (Ai (show ln / 2 ^ 32 = 0 by omega))<|(Qcw)<|(Qxw)<|(Qj 13)<|(Qu 2)<|Qn<|(ge)<|(gn)<|(g4)<|(Qd 2)<|(ja)<|Qr ?_
  rw [← zg (z1M hf0_1)]
  exact ⟨_, rfl, ya 1⟩
theorem z82 : Fp G 108 #[] (.agg (cells 74 [pI .u32 8 z1s, pI .u8 64 (fun _ => 0), pV (.int .i64 0), pV (.int .i64 0)])) := by
 refine Qf1 Tryz.func108 ?_
 refine (g4)<|(QH 0) fun r1=>(gl) ?_
 refine (Ca z7E)<|(QH 1) fun r2=>(Qt 1)<|(gl)<|(Qj 0)<|(Q1 1) ?_
 refine z46 (q := 16842784) rfl rfl rfl  ?_
 refine (Qj 0)<|(Qu 1)<|(gl)<|(Qd 1) ?_
 refine zC (cells 74 [pI .u32 8 z1s, pI .u8 64 (fun _ => 0), pV (.int .i64 0), pV (.int .i64 0)]) (Ub 113 rfl) (Uu 113 rfl) z3B rfl (by kernel_rfl) rfl ?_
 refine (QW 0)<|Qn<|Qr ?_
 exact ⟨_, rfl, yb 0⟩
theorem zay (h d : NN) (n ln : Nat) (hd : L8 64 d) (hl : ln < 4294967296) : Fp (DOR :: G) 141 #[.agg (cells 74 [pI .u32 8 h, pI .u8 64 d, pV (.int .i64 (n : Int)), pV (.int .i64 (ln : Int))]), .bool true] (.agg (arr .u32 8 (sqz h ((List.range 64).map d) ln true))) := by
 obtain ⟨v, hv⟩ : ∃ v, v = wU (wrd ((List.range 64).map d)) (w0 h ln true) 10 := ⟨_, rfl⟩
 have hvb : ∀ t, t < 16 → v t = brs ((List.range 64).map d) (w0 h ln true) 10 t := fun t ht => by rw [hv]; exact z36 (fun _ _ => rfl) 10 t ht
 obtain ⟨z, hz⟩ : ∃ z, z = sqz h ((List.range 64).map d) ln true := ⟨_, rfl⟩
 rw [← hz]
 refine Qf1 Tryz.func141 ?_
 refine (g4)<|(Qh 0) fun r1=>(QH 1) fun r2=>(jf)<|(QD 0)<|(Qm) ?_
 refine (Ca (z5w h d n ln hl))<|(Qf 8)<|(Qv 1 0) ?_
 refine (Ca (z4p d hd)) ?_
 refine (Ca (z1m (w0 h ln true) (wrd ((List.range 64).map d)))) ?_
 refine z6 (congrArg (fun f => Value.agg (arr .u32 16 f)) hv.symm) ?_
 refine (QH 2) fun r3=>(Qt 2)<|Qn<|(jg) ?_
 refine QzK [(2, _), (4, _), (5, _)] [(1, _), (2, _)] (fun kk E m => ∃ (q : Nat) (s : Nat → Nat), kk = 8 - q ∧ E = [(14, ii q)] ∧ m = [(0, some ⟨r1, cells 74 [pI .u32 8 s, pI .u8 64 d, pV (.int .i64 (n : Int)), pV (.int .i64 (ln : Int))], 113⟩)] ∧ (q ≤ 8) ∧ (∀ t, t < 8 → s t = if t < q then z t else h t)) ⟨0, h, rfl, rfl, rfl, by omega, fun t _ => by rw [if_neg (by omega)]⟩ ⟨rfl, rfl, rfl, rfl, trivial⟩ ⟨rfl, rfl, rfl, trivial⟩ ?_
 rintro kk E m ⟨q, s, rfl, rfl, rfl, hf0_0, hf0_1⟩
 simp only [zo, zu]
 refine (gq) ?_
 refine (Qcd) (fun hc0=>?_) fun hc0=>?_
 ·have hc0 : q < 8 := by omega
  refine (jq)<|(g3)<|(Qg)<|(Qm)<|(Qf 0)<|(Qi) ?_
  refine z2H (i := 0) 0 (q) (Uu 109) rfl rfl rfl rfl (by first | rfl | omega) (by omega) (by omega) rfl ⟨[], trivial⟩ ?_
  refine (Qm)<|(Qi)<|(Q1 2)<|(Qm) ?_
  refine zY (p := 8) rfl rfl rfl (by omega) ?_
  refine (Qi)<|(Q1 2)<|(Qxw)<|(Qxw)<|(Qf 0)<|(Qi) ?_
  refine z9m (i := 0) 0 (q) (Uz 109) rfl rfl rfl rfl (by first | rfl | omega) (by omega) (by omega) (.inl rfl) ?_
  refine (jc) ?_
  refine QzL ⟨q + 1, upd s q _, rfl, rfl, rfl, by omega, z6i (by omega) hvb hz hf0_1⟩ ⟨rfl, rfl, rfl, rfl, trivial⟩ ⟨rfl, rfl, rfl, trivial⟩ ?_
  omega
 ·have hz0 : q = 8 := by omega
  subst hz0
  refine (jn)<|(j8)<|(ja)<|Qr ?_
  rw [← zg (k := .u32) (n := 8) (fun t ht => (hf0_1 t ht).trans (if_pos (by omega)))]
  exact ⟨_, rfl, ya 1⟩
theorem z83 (h d : NN) (n ln : Nat) (hd : L8 64 d) (hl : ln < 4294967296) : Fp (DOR :: G) 141 #[.agg (cells 74 [pI .u32 8 h, pI .u8 64 d, pV (.int .i64 (n : Int)), pV (.int .i64 (ln : Int))]), .bool false] (.agg (arr .u32 8 (sqz h ((List.range 64).map d) ln false))) := by
 obtain ⟨v, hv⟩ : ∃ v, v = wU (wrd ((List.range 64).map d)) (w0 h ln false) 10 := ⟨_, rfl⟩
 have hvb : ∀ t, t < 16 → v t = brs ((List.range 64).map d) (w0 h ln false) 10 t := fun t ht => by rw [hv]; exact z36 (fun _ _ => rfl) 10 t ht
 obtain ⟨z, hz⟩ : ∃ z, z = sqz h ((List.range 64).map d) ln false := ⟨_, rfl⟩
 rw [← hz]
 refine Qf1 Tryz.func141 ?_
 refine (g4)<|(Qh 0) fun r1=>(QH 1) fun r2=>(jf)<|(QD 0)<|(Qm) ?_
 refine (Ca (z2U h d n ln hl))<|(Qf 8)<|(Qv 1 0) ?_
 refine (Ca (z4p d hd)) ?_
 refine (Ca (z1m (w0 h ln false) (wrd ((List.range 64).map d)))) ?_
 refine z6 (congrArg (fun f => Value.agg (arr .u32 16 f)) hv.symm) ?_
 refine (QH 2) fun r3=>(Qt 2)<|Qn<|(jg) ?_
 refine QzK [(2, _), (4, _), (5, _)] [(1, _), (2, _)] (fun kk E m => ∃ (q : Nat) (s : Nat → Nat), kk = 8 - q ∧ E = [(14, ii q)] ∧ m = [(0, some ⟨r1, cells 74 [pI .u32 8 s, pI .u8 64 d, pV (.int .i64 (n : Int)), pV (.int .i64 (ln : Int))], 113⟩)] ∧ (q ≤ 8) ∧ (∀ t, t < 8 → s t = if t < q then z t else h t)) ⟨0, h, rfl, rfl, rfl, by omega, fun t _ => by rw [if_neg (by omega)]⟩ ⟨rfl, rfl, rfl, rfl, trivial⟩ ⟨rfl, rfl, rfl, trivial⟩ ?_
 rintro kk E m ⟨q, s, rfl, rfl, rfl, hf0_0, hf0_1⟩
 simp only [zo, zu]
 refine (gq) ?_
 refine (Qcd) (fun hc0=>?_) fun hc0=>?_
 ·have hc0 : q < 8 := by omega
  refine (jq)<|(g3)<|(Qg)<|(Qm)<|(Qf 0)<|(Qi) ?_
  refine z2H (i := 0) 0 (q) (Uu 109) rfl rfl rfl rfl (by first | rfl | omega) (by omega) (by omega) rfl ⟨[], trivial⟩ ?_
  refine (Qm)<|(Qi)<|(Q1 2)<|(Qm) ?_
  refine zY (p := 8) rfl rfl rfl (by omega) ?_
  refine (Qi)<|(Q1 2)<|(Qxw)<|(Qxw)<|(Qf 0)<|(Qi) ?_
  refine z9m (i := 0) 0 (q) (Uz 109) rfl rfl rfl rfl (by first | rfl | omega) (by omega) (by omega) (.inl rfl) ?_
  refine (jc) ?_
  refine QzL ⟨q + 1, upd s q _, rfl, rfl, rfl, by omega, z6i (by omega) hvb hz hf0_1⟩ ⟨rfl, rfl, rfl, rfl, trivial⟩ ⟨rfl, rfl, rfl, trivial⟩ ?_
  omega
 ·have hz0 : q = 8 := by omega
  subst hz0
  refine (jn)<|(j8)<|(ja)<|Qr ?_
  rw [← zg (k := .u32) (n := 8) (fun t ht => (hf0_1 t ht).trans (if_pos (by omega)))]
  exact ⟨_, rfl, ya 1⟩
theorem zaT (h d : NN) (n ln : Nat) (v : Value) (l : LN) (hv : Sh (DOR :: G) v l) (hlb : By l) (hd : L8 64 d) (hok : okB n ln d = true) (hz : ln + l.length ≤ 1073741824) : Fp (DOR :: G) 107 #[.agg (cells 74 [pI .u32 8 h, pI .u8 64 d, pV (.int .i64 (n : Int)), pV (.int .i64 (ln : Int))]), v] (.agg (cells 74 [pI .u32 8 (Zb h (ln - n) (sS d n l) (yK (sS d n l).length)), pI .u8 64 (fun i => ((sS d n l).drop (64 * yK (sS d n l).length)).getD i 0), pV (.int .i64 (((sS d n l).drop (64 * yK (sS d n l).length)).length : Nat)), pV (.int .i64 (ln + l.length : Nat))])) := by
 obtain ⟨_, hnl, hn, hmod, _⟩ := Wi hok
 refine Qf1 Tryz.func107 ?_
 refine (g4)<|(Qh 0) fun r1=>(QH 1) fun r2=>Qn<|Qs<|Qb ?_
 refine QzK [(2, _), (4, _)] [(1, _)] (fun kk E m => ∃ (hh : Nat → Nat) (g : Nat → Nat) (nn : Nat) (q : Nat) (bv : Value), kk = ln + l.length - q ∧ E = [(1, bv)] ∧ m = [(0, some ⟨r1, cells 74 [pI .u32 8 hh, pI .u8 64 g, pV (.int .i64 ((nn : Nat) : Int)), pV (.int .i64 ((q : Nat) : Int))], 113⟩)] ∧ (ZT h d n ln l hh g nn q) ∧ (Shows (DOR :: G) 1 bv (l.drop (q - ln)).length ((l.drop (q - ln)).map by8))) ⟨h, d, n, ln, v, rfl, rfl, rfl, zb9 l hok, (by rw [Nat.sub_self]; exact hv)⟩ ⟨rfl, rfl, rfl, trivial⟩ ⟨rfl, rfl, trivial⟩ ?_
 rintro kk E m ⟨hh, g, nn, q, bv, rfl, rfl, rfl, hf0_0, hf0_1⟩
 simp only [zo, zu]
 have hq1 := hf0_0.1
 have hq2 := hf0_0.2.1
 have hnn := zjt hf0_0
 have hwl : (l.drop (q - ln)).length = l.length - (q - ln) := List.length_drop
 refine (ge)<|(QC hf0_1)<|(QG)<|Qn ?_
 refine zh rfl ?_ ?_
 ·intro hc0
  have hw0 : 0 < (l.drop (q - ln)).length := by have := of_decide_eq_true hc0; omega
  refine Qk<|Qb<|Qs<|Qs ?_
  rcases (by omega : nn = 64 ∨ nn < 64) with hN | hN
  ·skip
   refine Qp<|(j5)<|(Qc)<|Qn ?_
   refine zh rfl ?_ ?_
   ·intro hc1
    refine (gc) ?_
    refine (Ca (z83 hh g nn q (ziH hd hn hlb hf0_0) (by omega)))<|(Qf 0)<|(QtC 0 0)<|Qn<|Qp ?_
    refine wo (Ub 111 rfl) (Uu 111 rfl) z5u rfl ?_
    refine (Qf 8)<|(QtC 0 1)<|(Qf 72)<|(QtV 0 2)<|(gl)<|(Qf 8)<|(j5) ?_
    refine xo 0 64 (Uu 111) (Uz 5) rfl rfl rfl ⟨_, rfl⟩ rfl (by omega) (by omega) (by omega) rfl ?_
    refine (Qm) ?_
    refine z5Q (i := 0) (o := 8) (L := 64) 1 (0) (Uu 22) (Uz 5) hf0_1 za rfl rfl rfl rfl (by omega) (by omega) (by decide) rfl ?_
    refine (j9)<|(j5) ?_
    refine (Av (ii 0))<|(Qm)<|(Q3)<|(Qf 72)<|(QtV 0 2)<|(gl)<|(Qf 73)<|(QV 3 0)<|(Qm)<|(Q3)<|(Qf 73)<|(QtV 0 3)<|Qn<|Qp<|(gb) ?_
    refine yi _ (l.drop (q - ln)).length hf0_1 (Uu 22) (Uz 5) rfl rfl rfl ⟨_, rfl⟩ rfl (by omega) (by omega) rfl ?_
    refine (g3) ?_
    refine QzL ⟨_, _, _, _, _, rfl, rfl, rfl, (by first | exact z5Y hnl hf0_0 hN hmod rfl hw0 rfl (fun _ _ => rfl) rfl rfl | exact z4z hf0_0 hN rfl hw0 (fun _ _ => rfl) rfl rfl), (z2n hf0_1 (by omega) hq1)⟩ ⟨rfl, rfl, rfl, trivial⟩ ⟨rfl, rfl, trivial⟩ ?_
    omega
   ·intro hc1
    exact absurd (of_decide_eq_false hc1) (by omega)
  ·skip
   refine Qp<|(j5)<|(Qc)<|Qn ?_
   refine zh rfl ?_ ?_
   ·intro hc1
    exact absurd (of_decide_eq_true hc1) (by omega)
   ·intro hc1
    refine Qk<|(g4)<|(Qf 8)<|(j5) ?_
    refine xo nn 64 (Uu 111) (Uz 5) rfl rfl rfl ⟨_, rfl⟩ rfl (by omega) (by omega) (by omega) rfl ?_
    refine (Qm) ?_
    refine z5Q (i := 0) (o := 8) (L := 64) 1 (nn) (Uu 22) (Uz 5) hf0_1 za rfl rfl rfl rfl (by omega) (by omega) (by decide) rfl ?_
    refine (j9)<|(j5)<|(Qm)<|(Q3)<|(Qf 72)<|(QtV 0 2)<|(gl)<|(Qf 73)<|(QV 3 0)<|(Qm)<|(Q3)<|(Qf 73)<|(QtV 0 3)<|Qn<|Qp<|(gb) ?_
    refine yi _ (l.drop (q - ln)).length hf0_1 (Uu 22) (Uz 5) rfl rfl rfl ⟨_, rfl⟩ rfl (by omega) (by omega) rfl ?_
    refine (g3) ?_
    refine QzL ⟨_, _, _, _, _, rfl, rfl, rfl, (by first | exact z5Y hnl hf0_0 hN hmod rfl hw0 rfl (fun _ _ => rfl) rfl rfl | exact z4z hf0_0 hN rfl hw0 (fun _ _ => rfl) rfl rfl), (z2n hf0_1 (by omega) hq1)⟩ ⟨rfl, rfl, rfl, trivial⟩ ⟨rfl, rfl, trivial⟩ ?_
    omega
 ·intro hc0
  have hw0 : (l.drop (q - ln)).length = 0 := by have := of_decide_eq_false hc0; omega
  obtain ⟨a1, a2, a3, a4⟩ := ze2 hf0_0 hw0
  refine Qe<|(gc) ?_
  refine z6 (Eq.trans (show _ = .agg (cells 74 [pI .u32 8 hh, pI .u8 64 g, pV (.int .i64 ((nn : Nat) : Int)), pV (.int .i64 ((q : Nat) : Int))]) from rfl) (zft a1 a2 a3 a4)) ?_
  refine (QW 1)<|Qn<|Qr ?_
  exact ⟨_, rfl, yb 1⟩
theorem z7g (h d : NN) (n ln : Nat) (hd : L8 64 d) (hl : ln < 4294967296) : Fp (DOR :: G) 106 #[.agg (cells 74 [pI .u32 8 h, pI .u8 64 d, pV (.int .i64 (n : Int)), pV (.int .i64 (ln : Int))])] (.agg (arr .u8 32 (Yq (sqz h ((List.range 64).map d) ln true)))) := by
 obtain ⟨w, hw⟩ : ∃ w, w = (sqz h ((List.range 64).map d) ln true) := ⟨_, rfl⟩
 rw [← hw]
 refine Qf1 Tryz.func106 ?_
 refine (g4)<|(Qh 0) fun r1=>(QH 1) fun r2=>Qn<|(gc) ?_
 refine (Ca (zay h d n ln hd hl)) ?_
 refine z6 (congrArg (fun f => Value.agg (arr .u32 8 f)) hw.symm) ?_
 refine (QH 2) fun r3=>(Qt 2)<|(gl)<|(QH 3) fun r4=>Qn<|(jg) ?_
 refine QzK [(2, _), (3, _), (4, _)] [(0, _), (1, _), (2, _)] (fun kk E m => ∃ (i : Nat) (s : Nat → Nat), kk = 32 - i ∧ E = [(8, ii i)] ∧ m = [(3, some ⟨r4, arr .u8 32 s, 30⟩)] ∧ (i ≤ 32) ∧ (∀ t, t < i → s t = Yq w t)) ⟨0, fun _ => 0, rfl, rfl, rfl, by omega, fun t ht => absurd ht (Nat.not_lt_zero t)⟩ ⟨rfl, rfl, rfl, rfl, trivial⟩ ⟨rfl, rfl, rfl, rfl, trivial⟩ ?_
 rintro kk E m ⟨i, s, rfl, rfl, rfl, hf0_0, hf0_1⟩
 simp only [zo, zu]
 refine (gq) ?_
 refine (Qcd) (fun hc0=>?_) fun hc0=>?_
 ·have hc0 : i < 32 := by omega
  refine (jq)<|(g3)<|Qp<|(gb)<|(Q5 4)<|(Qi)<|(Q1 2)<|(Qm)<|(Q4 4)<|(Q6 8) ?_
  refine vX rfl rfl rfl (by omega) ?_
  refine x8 (Uu 109) (Uu 5) rfl rfl rfl ?_
  refine (Qi)<|(Qu 3)<|(jc) ?_
  refine QzL ⟨i + 1, upd s i _, rfl, rfl, rfl, by omega, yM hf0_1 (zgj w (by omega))⟩ ⟨rfl, rfl, rfl, rfl, trivial⟩ ⟨rfl, rfl, rfl, rfl, trivial⟩ ?_
  omega
 ·have hz0 : i = 32 := by omega
  subst hz0
  refine (jn)<|(Qd 3)<|(ja)<|Qr ?_
  rw [← zg (k := .u8) (n := 32) hf0_1]
  exact ⟨_, rfl, ya 1⟩
theorem z4q {G : Mem} (m : LN) (v : Value) (l : LN) (hm : By m) (hv : Sh (DOR :: G) v l) (hlb : By l) (hz : m.length + l.length ≤ 1073741824) :
  Fn Tryz.prog (DOR :: G) 107 #[stB m, v] (stB (m ++ l)) := by
 have h := zaT (G := G) (Vq m) (vm m) (yX m).length m.length v l hv hlb (fun j _ => Xm hm j) (Xo m) hz
 rw [z52, z9f, z5M, z23, ← List.length_append] at h
 exact h
theorem z4m {G : Mem} (m : LN) (hm : By m) (hz : m.length ≤ 1073741824) : Fp (DOR :: G) 106 #[stB m] (.agg (arr .u8 32 (vW m))) := by
 have h := z7g (G := G) (Vq m) (vm m) (yX m).length m.length (fun j _ => Xm hm j) (by omega)
 rw [← z0h hz] at h
 exact h
theorem z7p {G : Mem} : Fp G 108 #[] (stB []) := by
 rw [← z3X]; exact z82
theorem z54 (v : Value) (l : LN) (hv : Sh (DOR :: G) v l) (hlb : By l) (hz : l.length ≤ 1073741824) : Fp (DOR :: G) 66 #[v] (.agg (arr .u8 32 (vW l))) := by
 refine Qf1 Tryz.func66 ?_
 refine (g4)<|(QH 0) fun r1=>(gl) ?_
 refine (Ca z7p)<|(Qm) ?_
 refine (Ca (z4q [] v l (by simp) hv hlb (by simpa using hz))) ?_
 refine (Av (stB l)) ?_
 refine (Ca (z4m l hlb hz))<|(Qt 0)<|Qn<|Qr ?_
 exact ⟨_, rfl, ya 0⟩
theorem z6G (v : Value) (vs : List Value) (ls : List (LN)) (hv : Shows G 1 v vs.length vs) (hL : z0z G vs ls) (hn : vs.length ≤ 1099511627776) (hm : ls.flatten.length ≤ 1099511627776) : Fq G [] 222 #[v] (fun v l1 nw => l1 = [] ∧ ∃ v', v = v' ∧ OwnS 5 1 v' ls.flatten.length (ls.flatten.map by8) nw) := by
 have hvl := hL.1
 have hup := z85 ls
 refine QfN Tryz.func222 ?_
 refine (gd)<|(gd)<|(ge)<|(QC hv)<|(Qm)<|Qn<|Qb ?_
 refine QzK [(2, _), (6, _), (7, _)] [] (fun kk E m => ∃ (j : Nat) (w : Value) (oz : Option Blk), kk = vs.length - j ∧ E = [(3, w), (8, ii j)] ∧ m = [(50, oz)] ∧ (j ≤ vs.length) ∧ (OwnS 5 1 w (Ya ls j).length ((Ya ls j).map by8) (Option.toList oz))) ⟨0, y4, none, rfl, rfl, rfl, by omega, (wT _ _)⟩ ⟨rfl, rfl, rfl, rfl, rfl, trivial⟩ ⟨rfl, trivial⟩ ?_
 rintro kk E m ⟨j, w, oz, rfl, rfl, rfl, hf0_0, hf0_1⟩
 simp only [zo, zu]
 have hs3 := hup (j + 1)
 have hs4 : j < ls.length → (Ya ls (j + 1)).length = (Ya ls j).length + (ls.getD j []).length := fun h => by rw [wi h, List.length_append]
 refine (gq) ?_
 refine (Qcd) (fun hc0=>?_) fun hc0=>?_
 ·have hc0 : j < vs.length := by omega
  refine Qk<|Qs<|Qb<|(g4) ?_
  refine yf hv (Uu 154) (Uz 22) rfl rfl (by omega) rfl ?_
  refine (QS) ?_
  refine zR hv za (Uu 22) rfl rfl (xA (by omega)) rfl ?_
  refine (g3)<|Qp<|(gb) ?_
  refine yQ 50 hf0_1 (hL.2 j (by omega)) rfl za (Uu 22) (Uz 5) (Uy 5) (Ub 5) (by rfl) rfl rfl W0 (by have := hs4 (by omega); simp only [maxLen]; omega) (by have := hs4 (by omega); omega) rfl fun v2_1 oz2_1 ho2_1 => ?_
  refine (jb) ?_
  refine QzL ⟨j + 1, _, _, rfl, rfl, rfl, by omega, (zw ho2_1 (by rw [wi (by omega), List.length_append]) (by rw [wi (by omega), List.map_append]))⟩ ⟨rfl, rfl, rfl, rfl, rfl, trivial⟩ ⟨rfl, trivial⟩ ?_
  omega
 ·have hz0 : j = vs.length := by omega
  refine Qe<|(g6)<|(gt) ?_
  exact ⟨_, _, _, 50, rfl, yt, (zw hf0_1 (by rw [hz0, hvl, XM]) (by rw [hz0, hvl, XM])), rfl⟩
theorem z15 (p : LN) (x : Nat) (hp : p.length = 64) : Fq G [] 235 #[.agg (arr .u8 64 (fun j => p.getD j 0)), by8 x] (fun v l1 nw => l1 = [] ∧ ∃ v', v = v' ∧ OwnS 286 1 v' 64 ((xm p x).map by8) nw) := by
 refine QfN Tryz.func235 ?_
 refine (g4)<|(Qh 0) fun r1=>(g3)<|(jg) ?_
 refine QzK [(1, _), (2, _), (4, _)] [] (fun kk E m => ∃ (i : Nat) (s : Nat → Nat), kk = 64 - i ∧ E = [(6, ii i)] ∧ m = [(0, some ⟨r1, arr .u8 64 s, 286⟩)] ∧ (i ≤ 64) ∧ (∀ t, t < 64 → s t = if t < i then (p.getD t 0 ^^^ x) % 256 else p.getD t 0)) ⟨0, (fun j => p.getD j 0), rfl, rfl, rfl, by omega, z9K (k := fun j => p.getD j 0)⟩ ⟨rfl, rfl, rfl, rfl, trivial⟩ ⟨rfl, trivial⟩ ?_
 rintro kk E m ⟨i, s, rfl, rfl, rfl, hf0_0, hf0_1⟩
 simp only [zo, zu]
 refine (gq) ?_
 refine (Qcd) (fun hc0=>?_) fun hc0=>?_
 ·have hc0 : i < 64 := by omega
  refine (jq)<|(g3)<|(j0)<|(gv)<|(Qm) ?_
  refine vu rfl rfl rfl  ?_
  refine (ji)<|(jc) ?_
  refine QzL ⟨i + 1, upd s i _, rfl, rfl, rfl, by omega, (zdJ (k := fun j => p.getD j 0) hf0_1 (by omega) rfl)⟩ ⟨rfl, rfl, rfl, rfl, trivial⟩ ⟨rfl, trivial⟩ ?_
  omega
 ·have hz0 : i = 64 := by omega
  subst hz0
  refine (jn)<|(Qsa 0 64)<|(gt) ?_
  exact ⟨_, _, _, 0, rfl, yt, (XH ((yj p x).trans hp) (by decide) (zch hp hf0_1)), rfl⟩
theorem zbO (v : Value) (k : LN) (hv : Sh (DOR :: G) v k) (hb : By k) (hz : k.length ≤ 1073741824) (hkl : 64 < k.length) : Fp (DOR :: G) 234 #[v] (.agg (arr .u8 64 (fun j => (Xl k).getD j 0))) := by
 have hmk : z0H k = (bsl k) := if_pos hkl
 have hkle := Xt k
 rw [hmk] at hkle
 refine Qf1 Tryz.func234 ?_
 refine (g4)<|(QH 0) fun r1=>(gl)<|(QH 1) fun r2=>Qn<|(ge)<|(QC hv)<|(QG)<|(Qat)<|(gu)<|(g6) ?_
 refine (Ca (z54 v k hv hb hz))<|(QH 2) fun r3=>(Qt 2)<|Qn<|Qp<|(Qsa 0 32)<|(j9)<|(Qsa 0 64)<|(Qm) ?_
 refine z3O (i := 1) (Uu 22) (Uz 5) (show Shows _ 1 _ (bsl k).length ((bsl k).map by8) from xx _ (vW k) _) (ym 2 rfl ⟨[], trivial⟩) rfl rfl rfl (by omega) rfl ?_
 refine (gl)<|(Qd 1) ?_
 refine (Aa (zfY hmk hkle rfl))<|(Qt 0)<|Qn<|Qr ?_
 exact ⟨_, rfl, ya 0⟩
theorem z7z (v : Value) (k : LN) (hv : Sh (DOR :: G) v k) (hkl : ¬ 64 < k.length) : Fp (DOR :: G) 234 #[v] (.agg (arr .u8 64 (fun j => (Xl k).getD j 0))) := by
 have hmk : z0H k = k := if_neg hkl
 have hkle := Xt k
 rw [hmk] at hkle
 refine Qf1 Tryz.func234 ?_
 refine (g4)<|(QH 0) fun r1=>(gl)<|(QH 1) fun r2=>Qn<|(ge)<|(QC hv)<|(QG)<|(gw)<|(g4)<|(Qsa 0 64)<|(Qm) ?_
 refine z3O (i := 1) (Uu 22) (Uz 5) hv za rfl rfl rfl (by omega) rfl ?_
 refine (gl)<|(Qd 1) ?_
 refine (Aa (zfY hmk hkle rfl))<|(Qt 0)<|Qn<|Qr ?_
 exact ⟨_, rfl, ya 0⟩
theorem W7 {G : Mem} (r : Nat) (v1 v2 : Value) (a b : LN) (h1 : Sh G v1 a) (h2 : Sh G v2 b) (hr : (⟨r, [v1, v2].toArray, 22⟩ : Blk) ∈ G) (hm : a.length + b.length ≤ 1099511627776) :
  Fx Tryz.prog G [] 222 #[.slice (some ⟨r, 0, none⟩) 2 2] (fun v l1 nw => l1 = [] ∧ ∃ v', v = v' ∧ OwnS 5 1 v' (a ++ b).length ((a ++ b).map by8) nw) := by
 have h := z6G (G := G) (.slice (some ⟨r, 0, none⟩) 2 2) [v1, v2] [a, b] ((xp (r := r) (len := 2) (z := 1) [v1, v2].toArray 22 rfl).mono (fun x hx => by simp at hx; subst hx; exact hr)) (yJ h1 (yJ h2 (X9 _))) (Nat.le_of_ble_eq_true rfl) (by simp; omega)
 have e : [a, b].flatten = a ++ b := by simp
 rw [e] at h
 exact h
theorem zhq {G : Mem} (v : Value) (k : LN) (hv : Sh (DOR :: G) v k) (hb : By k) (hz : k.length ≤ 1073741824) : Fp (DOR :: G) 234 #[v] (.agg (arr .u8 64 (fun j => (Xl k).getD j 0))) := by
 by_cases h : 64 < k.length
 ·exact zbO v k hv hb hz h
 ·exact z7z v k hv h
theorem zdS {G X : Mem} (v : Value) (l : LN) (hv : Sh X v l) (hlb : By l) (hz : l.length ≤ 1073741824) : Fp ((DOR :: G) ++ X) 66 #[v] (.agg (arr .u8 32 (vW l))) :=
 z54 (G := G ++ X) v l (hv.mono fun _ h => List.mem_cons_of_mem _ (List.mem_append_right _ h)) hlb hz
theorem zfq {p s : LN} {c : Nat} (h : By s) : ∀ b ∈ xm p c ++ s, b < 256 := fun b hb => (List.mem_append.1 hb).elim (XZ p c b) (h b)
theorem zfv (vk vs : Value) (k s : LN) (hvk : Sh (DOR :: G) vk k) (hvs : Sh (DOR :: G) vs s) (hk : By k) (hb : By s) (hkm : k.length ≤ 1073741824) (hs : s.length ≤ 1073741760) : Fp (DOR :: G) 221 #[vk, vs] (.agg (arr .u8 32 (mac k s))) := by
 obtain ⟨P, hPe⟩ : ∃ P, P = Xl k := ⟨_, rfl⟩
 have hP : P.length = 64 := by rw [hPe]; exact z1d k
 have hFit := zhq (G := G) vk k hvk hk hkm
 rw [← hPe] at hFit
 obtain ⟨g, hg⟩ : ∃ g, g = vW (xm P 54 ++ s) := ⟨_, rfl⟩
 have hgl : bsl (xm P 54 ++ s) = (List.range 32).map g := by rw [hg]; rfl
 have hmc : vW (xm P 92 ++ (List.range 32).map g) = mac k s := by rw [← hgl, hPe]; rfl
 have hgb : ∀ b ∈ (List.range 32).map g, b < 256 := by rw [← hgl]; exact z30 _
 have hg32 : ((List.range 32).map g).length = 32 := by simp
 have hx5 := yj P 54
 have hx9 := yj P 92
 refine Qf1 Tryz.func221 ?_
 refine (g4)<|(QH 0) fun r1=>Qn<|(g6) ?_
 refine (Ca hFit)<|(QH 1) fun r2=>(ja)<|Qs<|QR ⟨[], 4, [], none, none⟩<|(Qd 1) ?_
 refine zI 2 (fun v => v) rfl rfl (Un 235) za (z15 P 54 hP) (by decide) (by rw [List.length_map, yj, hP]) rfl rfl fun v1_1 oz1_1 ho1_1 => ?_
 refine (Qm) ?_
 refine yl 3 [v1_1, vs].toArray (Uu 154 rfl) (Uz 22 rfl) (Ub 22 rfl) (by decide) (by decide) rfl (xL [v1_1, vs] 0 _ (by intro v hv; simp only [List.mem_cons, List.not_mem_nil, or_false] at hv; rcases hv with rfl | rfl; exact (yk ho1_1.shows); exact (yk hvs)) (by simp)) rfl fun r4 => ?_
 refine zI 4 (fun v => v) rfl rfl (Un 222) (zf za (zf (zH 2 rfl ⟨[], trivial⟩) (ym 3 rfl ⟨[], trivial⟩))) (W7 (G := ((DOR :: G) ++ (oz1_1.toList ++ [(⟨r4, [v1_1, vs].toArray, 22⟩ : Blk)]))) r4 v1_1 vs (xm P 54) s (Shows.mono (zG ho1_1) (fun x h => (List.mem_append_right _ (List.mem_append_left _ h)))) (Shows.mono hvs (fun x h => (List.mem_append_left _ h))) (List.mem_append_right _ (List.mem_append_right _ (List.mem_singleton.2 rfl))) (by rw [yj]; omega)) (by rw [List.length_append]; simp only [maxLen]; omega) (by rw [List.length_map, Nat.mul_one]) rfl rfl fun v1_2 oz1_2 ho1_2 => ?_
 refine zi rfl rfl (Un 66) (zf za (zH 4 rfl ⟨[], trivial⟩)) (zdS (G := G) (X := oz1_2.toList) v1_2 (xm P 54 ++ s) (zG ho1_2) (zfq hb) (by rw [List.length_append, yj]; omega)) rfl rfl ?_
 refine (Af hg.symm)<|(QH 5) fun r6=>(Qt 5)<|Qn<|Qs<|(Qq ⟨[], 4, [], none, none⟩)<|(Qd 1) ?_
 refine zI 6 (fun v => v) rfl rfl (Un 235) za (z15 P 92 hP) (by decide) (by rw [List.length_map, yj, hP]) rfl rfl fun v1_3 oz1_3 ho1_3 => ?_
 refine (Qsa 0 32) ?_
 refine yl 7 [v1_3, (.slice (some ⟨r6, 0, none⟩) 32 32)].toArray (Uu 154 rfl) (Uz 22 rfl) (Ub 22 rfl) (by decide) (by decide) rfl (xL [v1_3, (.slice (some ⟨r6, 0, none⟩) 32 32)] 0 _ (by intro v hv; simp only [List.mem_cons, List.not_mem_nil, or_false] at hv; rcases hv with rfl | rfl; exact (yk ho1_3.shows); exact rfl) (by simp)) rfl fun r8 => ?_
 refine zI 8 (fun v => v) rfl rfl (Un 222) (zf za (zf (zH 6 rfl ⟨[], trivial⟩) (zf (ym 5 rfl ⟨[], trivial⟩) (ym 7 rfl ⟨[], trivial⟩)))) (W7 (G := ((DOR :: G) ++ (oz1_3.toList ++ ([(⟨r6, arr .u8 32 g, 30⟩ : Blk)] ++ [(⟨r8, [v1_3, (.slice (some ⟨r6, 0, none⟩) 32 32)].toArray, 22⟩ : Blk)])))) r8 v1_3 (.slice (some ⟨r6, 0, none⟩) 32 32) (xm P 92) ((List.range 32).map g) (Shows.mono (zG ho1_3) (fun x h => (List.mem_append_right _ (List.mem_append_left _ h)))) (Shows.mono (xx r6 g 30) (fun x h => (List.mem_append_right _ (List.mem_append_right _ (List.mem_append_left _ h))))) (List.mem_append_right _ (List.mem_append_right _ (List.mem_append_right _ (List.mem_singleton.2 rfl)))) (by rw [yj]; omega)) (by rw [List.length_append]; simp only [maxLen]; omega) (by rw [List.length_map, Nat.mul_one]) rfl rfl fun v1_4 oz1_4 ho1_4 => ?_
 refine zi rfl rfl (Un 66) (zf za (zH 8 rfl ⟨[], trivial⟩)) (zdS (G := G) (X := oz1_4.toList) v1_4 (xm P 92 ++ (List.range 32).map g) (zG ho1_4) (zfq hgb) (by rw [List.length_append, yj]; omega)) rfl rfl ?_
 refine (Af hmc)<|(Qt 0)<|Qn<|Qr ?_
 exact ⟨_, rfl, ya 0⟩
theorem Xy {G X : Mem} (vk vs : Value) (k s : LN) (hvk : Shows ((DOR :: G) ++ X) 1 vk k.length (k.map by8)) (hvs : Shows ((DOR :: G) ++ X) 1 vs s.length (s.map by8)) (hk : By k) (hb : By s) (hkm : k.length ≤ 1073741824) (hs : s.length ≤ 1073741760) : Fp ((DOR :: G) ++ X) 221 #[vk, vs] (.agg (arr .u8 32 (mac k s))) :=
 zfv (G := G ++ X) vk vs k s hvk hvs hk hb hkm hs
theorem z0x (r x : Nat) (t : TypeId) : Shows [⟨r, #[by8 x], t⟩] 1 (.slice (some ⟨r, 0, none⟩) 1 1) [x].length ([x].map by8) := xp (r := r) (len := 1) (z := 1) #[by8 x] t rfl
theorem zfM (a b : NN) : Instr.fill (fun i => some (i * 32, 32)) (arr .u8 64 fun _ => 0) [(0, .agg (arr .u8 32 a)), (1, .agg (arr .u8 32 b))] = some (arr .u8 64 (z6H a b)) := by kernel_rfl
theorem zde (a b c : NN) : ∀ j, j < 32 → vT a b c (0 + j) = a j := fun j hj => by rw [Nat.zero_add, vT, if_pos hj]
theorem zdO (a b c : NN) : ∀ j, j < 32 → vT a b c (32 + j) = b j := fun j hj => by rw [vT, if_neg (by omega), if_pos (by omega), Nat.add_sub_cancel_left]
theorem z2i (c : NN) (v : Value) (s : LN) (hc : L8 32 c) (hv : Sh (DOR :: G) v s) (hb : By s) (hs : s.length ≤ 1073741760) : Fp (DOR :: G) 194 #[.agg (arr .u8 32 c), v] (.agg (arr .u8 96 (vT (kA c s) (kB c s) (kC c s)))) := by
 obtain ⟨f, hf⟩ : ∃ f, f = mac ((List.range 32).map c) s := ⟨_, rfl⟩
 have hT : kT c s = ((List.range 32).map f) := by rw [hf]; rfl
 have hfb : ∀ b ∈ ((List.range 32).map f), b < 256 := by rw [← hT]; exact zis c s
 obtain ⟨fA, hA⟩ : ∃ x, x = kA c s := ⟨_, rfl⟩
 obtain ⟨fB, hB⟩ : ∃ x, x = kB c s := ⟨_, rfl⟩
 obtain ⟨fC, hC⟩ : ∃ x, x = kC c s := ⟨_, rfl⟩
 have eA : mac ((List.range 32).map f) [1] = fA := by rw [hA, kA, hT]
 have eB : mac ((List.range 32).map f) (((List.range 32).map fA) ++ [2]) = fB := by rw [hB, kB, hT, hA]
 have eC : mac ((List.range 32).map f) (((List.range 32).map fB) ++ [3]) = fC := by rw [hC, kC, hT, hB]
 have hfAb : ∀ b ∈ ((List.range 32).map fA), b < 256 := by rw [hA]; exact yv fun _ _ => Zf _ _ _
 have hfBb : ∀ b ∈ ((List.range 32).map fB), b < 256 := by rw [hB]; exact yv fun _ _ => Zf _ _ _
 rw [← hA, ← hB, ← hC]
 refine Qf1 Tryz.func194 ?_
 refine (g4)<|(Qh 0) fun r1=>(QH 1) fun r2=>(gl)<|(Qsa 0 32)<|(Qm) ?_
 refine zi rfl rfl (Un 221) (zf za (ym 0 rfl ⟨[], trivial⟩)) (Xy (G := G) (X := [(⟨r1, arr .u8 32 c, 30⟩ : Blk)]) (.slice (some ⟨r1, 0, none⟩) 32 32) v ((List.range 32).map c) s (Shows.mono (xx r1 c 30) (fun x h => List.mem_append_right _ h)) (Shows.mono hv (fun x h => List.mem_append_left _ h)) (yv hc) hb (by simp) hs) rfl rfl ?_
 refine (Af hf.symm)<|(QH 2) fun r3=>(Qt 2)<|(gl)<|(Qsa 0 32) ?_
 refine yl 3 #[by8 1] (Uu 22 rfl) (Uz 5 rfl) (Ub 5 rfl) (by decide) (by decide) rfl (by kernel_rfl) rfl fun r4 => ?_
 refine zi rfl rfl (Un 221) (zf za (zf (ym 2 rfl ⟨[], trivial⟩) (ym 3 rfl ⟨[], trivial⟩))) (Xy (G := G) (X := ([(⟨r3, arr .u8 32 f, 30⟩ : Blk)] ++ [(⟨r4, #[by8 1], 5⟩ : Blk)])) (.slice (some ⟨r3, 0, none⟩) 32 32) (.slice (some ⟨r4, 0, none⟩) 1 1) ((List.range 32).map f) [1] (Shows.mono (xx r3 f 30) (fun x h => List.mem_append_right _ (List.mem_append_left _ h))) (Shows.mono (z0x r4 1 5) (fun x h => List.mem_append_right _ (List.mem_append_right _ h))) hfb (by decide) (by simp) (by decide)) rfl rfl ?_
 refine (Af eA)<|(QH 4) fun r5=>(Qt 4)<|Qn<|Qs<|(Qq ⟨[], 4, [], none, none⟩)<|(Qsa 0 32)<|(Qsa 0 32) ?_
 refine yl 5 #[by8 2] (Uu 22 rfl) (Uz 5 rfl) (Ub 5 rfl) (by decide) (by decide) rfl (by kernel_rfl) rfl fun r6 => ?_
 refine yl 6 [(.slice (some ⟨r5, 0, none⟩) 32 32), (.slice (some ⟨r6, 0, none⟩) 1 1)].toArray (Uu 154 rfl) (Uz 22 rfl) (Ub 22 rfl) (by decide) (by decide) rfl (xL [(.slice (some ⟨r5, 0, none⟩) 32 32), (.slice (some ⟨r6, 0, none⟩) 1 1)] 0 _ (by intro v hv; simp only [List.mem_cons, List.not_mem_nil, or_false] at hv; rcases hv with rfl | rfl; exact rfl; exact rfl) (by simp)) rfl fun r7 => ?_
 refine zI 7 (fun v => v) rfl rfl (Un 222) (zf za (zf (ym 4 rfl ⟨[], trivial⟩) (zf (ym 5 rfl ⟨[], trivial⟩) (ym 6 rfl ⟨[], trivial⟩)))) (W7 (G := ((DOR :: G) ++ ([(⟨r5, arr .u8 32 fA, 30⟩ : Blk)] ++ ([(⟨r6, #[by8 2], 5⟩ : Blk)] ++ [(⟨r7, [(.slice (some ⟨r5, 0, none⟩) 32 32), (.slice (some ⟨r6, 0, none⟩) 1 1)].toArray, 22⟩ : Blk)])))) r7 (.slice (some ⟨r5, 0, none⟩) 32 32) (.slice (some ⟨r6, 0, none⟩) 1 1) ((List.range 32).map fA) [2] (Shows.mono (xx r5 fA 30) (fun x h => (List.mem_append_right _ (List.mem_append_left _ h)))) (Shows.mono (z0x r6 2 5) (fun x h => (List.mem_append_right _ (List.mem_append_right _ (List.mem_append_left _ h))))) (List.mem_append_right _ (List.mem_append_right _ (List.mem_append_right _ (List.mem_singleton.2 rfl)))) (by simp)) (by simp [maxLen]) (by rw [List.length_map, Nat.mul_one]) rfl rfl fun v1_1 oz1_1 ho1_1 => ?_
 refine zi rfl rfl (Un 221) (zf za (zf (ym 2 rfl ⟨[], trivial⟩) (zH 7 rfl ⟨[], trivial⟩))) (Xy (G := G) (X := ([(⟨r3, arr .u8 32 f, 30⟩ : Blk)] ++ oz1_1.toList)) (.slice (some ⟨r3, 0, none⟩) 32 32) v1_1 ((List.range 32).map f) (((List.range 32).map fA) ++ [2]) (Shows.mono (xx r3 f 30) (fun x h => List.mem_append_right _ (List.mem_append_left _ h))) (Shows.mono (zG ho1_1) (fun x h => List.mem_append_right _ (List.mem_append_right _ h))) hfb (z3J hfAb (by decide)) (by simp) (by simp)) rfl rfl ?_
 refine (Af eB)<|(QH 8) fun r9=>(Qt 8)<|Qn<|Qs<|(Qq ⟨[], 4, [], none, none⟩)<|(Qsa 0 32)<|(Qsa 0 32) ?_
 refine yl 9 #[by8 3] (Uu 22 rfl) (Uz 5 rfl) (Ub 5 rfl) (by decide) (by decide) rfl (by kernel_rfl) rfl fun r10 => ?_
 refine yl 10 [(.slice (some ⟨r9, 0, none⟩) 32 32), (.slice (some ⟨r10, 0, none⟩) 1 1)].toArray (Uu 154 rfl) (Uz 22 rfl) (Ub 22 rfl) (by decide) (by decide) rfl (xL [(.slice (some ⟨r9, 0, none⟩) 32 32), (.slice (some ⟨r10, 0, none⟩) 1 1)] 0 _ (by intro v hv; simp only [List.mem_cons, List.not_mem_nil, or_false] at hv; rcases hv with rfl | rfl; exact rfl; exact rfl) (by simp)) rfl fun r11 => ?_
 refine zI 11 (fun v => v) rfl rfl (Un 222) (zf za (zf (ym 8 rfl ⟨[], trivial⟩) (zf (ym 9 rfl ⟨[], trivial⟩) (ym 10 rfl ⟨[], trivial⟩)))) (W7 (G := ((DOR :: G) ++ ([(⟨r9, arr .u8 32 fB, 30⟩ : Blk)] ++ ([(⟨r10, #[by8 3], 5⟩ : Blk)] ++ [(⟨r11, [(.slice (some ⟨r9, 0, none⟩) 32 32), (.slice (some ⟨r10, 0, none⟩) 1 1)].toArray, 22⟩ : Blk)])))) r11 (.slice (some ⟨r9, 0, none⟩) 32 32) (.slice (some ⟨r10, 0, none⟩) 1 1) ((List.range 32).map fB) [3] (Shows.mono (xx r9 fB 30) (fun x h => (List.mem_append_right _ (List.mem_append_left _ h)))) (Shows.mono (z0x r10 3 5) (fun x h => (List.mem_append_right _ (List.mem_append_right _ (List.mem_append_left _ h))))) (List.mem_append_right _ (List.mem_append_right _ (List.mem_append_right _ (List.mem_singleton.2 rfl)))) (by simp)) (by simp [maxLen]) (by rw [List.length_map, Nat.mul_one]) rfl rfl fun v1_2 oz1_2 ho1_2 => ?_
 refine zi rfl rfl (Un 221) (zf za (zf (ym 2 rfl ⟨[], trivial⟩) (zH 11 rfl ⟨[], trivial⟩))) (Xy (G := G) (X := ([(⟨r3, arr .u8 32 f, 30⟩ : Blk)] ++ oz1_2.toList)) (.slice (some ⟨r3, 0, none⟩) 32 32) v1_2 ((List.range 32).map f) (((List.range 32).map fB) ++ [3]) (Shows.mono (xx r3 f 30) (fun x h => List.mem_append_right _ (List.mem_append_left _ h))) (Shows.mono (zG ho1_2) (fun x h => List.mem_append_right _ (List.mem_append_right _ h))) hfb (z3J hfBb (by decide)) (by simp) (by simp)) rfl rfl ?_
 refine (Af eC)<|(QH 12) fun r13=>(Qt 12)<|(gl)<|(Qd 4)<|(Qd 8)<|(Qd 12) ?_
 refine wD (arr .u8 96 (vT fA fB fC)) (Ub 79 rfl) (Uu 79 rfl) (Uz 30 rfl) rfl (z0u fA fB fC) rfl ?_
 refine (ja)<|Qr ?_
 exact ⟨_, rfl, ya 1⟩
theorem zgU (c : NN) (v : Value) (s : LN) (hc : L8 32 c) (hv : Sh (DOR :: G) v s) (hb : By s) (hs : s.length ≤ 1073741760) : Fp (DOR :: G) 187 #[.agg (arr .u8 32 c), v] (.agg (arr .u8 64 (z6H (kA c s) (kB c s)))) := by
 have h3 := z2i (G := G) c v s hc hv hb hs
 obtain ⟨fA, hA⟩ : ∃ x, x = kA c s := ⟨_, rfl⟩
 obtain ⟨fB, hB⟩ : ∃ x, x = kB c s := ⟨_, rfl⟩
 obtain ⟨fC, hC⟩ : ∃ x, x = kC c s := ⟨_, rfl⟩
 rw [← hA, ← hB, ← hC] at h3
 rw [← hA, ← hB]
 refine Qf1 Tryz.func187 ?_
 refine (g4)<|(Qh 0) fun r1=>(QH 1) fun r2=>(gl)<|(Qd 0)<|(Qm) ?_
 refine (Ca h3)<|(QH 2) fun r3=>(Qt 2)<|(gl)<|(QA 0 0)<|(Qls 2) ?_
 refine (Aa (zde fA fB fC))<|(QA 32 1)<|(Qls 2) ?_
 refine (Aa (zdO fA fB fC)) ?_
 refine wD (arr .u8 64 (z6H fA fB)) (Ub 227 rfl) (Uu 227 rfl) (Uz 30 rfl) rfl (zfM fA fB) rfl ?_
 refine (ja)<|Qr ?_
 exact ⟨_, rfl, ya 1⟩
theorem zeS {G : Mem} (r : Nat) (v1 v2 : Value) (a b : LN) (h1 : Sh G v1 a) (h2 : Sh G v2 b) (hr : (⟨r, [v1, v2].toArray, 22⟩ : Blk) ∈ G) (hm : a.length + b.length ≤ 1099511627776) :
  Fx Tryz.prog G [] 67 #[.slice (some ⟨r, 0, none⟩) 2 2] (fun v l1 nw => l1 = [] ∧ ∃ v', v = v' ∧ OwnS 5 1 v' (a ++ b).length ((a ++ b).map by8) nw) := by
 have h := z1N (G := G) (.slice (some ⟨r, 0, none⟩) 2 2) [v1, v2] [a, b] ((xp (r := r) (len := 2) (z := 1) [v1, v2].toArray 22 rfl).mono (fun x hx => by simp at hx; subst hx; exact hr)) (yJ h1 (yJ h2 (X9 _))) (Nat.le_of_ble_eq_true rfl) (by simp; omega)
 have e : [a, b].flatten = a ++ b := by simp
 rw [e] at h
 exact h
theorem zhC (a b : NN) : ∀ j, j < 32 → z6H a b (0 + j) = a j := fun j hj => by rw [Nat.zero_add, z6H, if_pos hj]
theorem zhG (a b : NN) : ∀ j, j < 32 → z6H a b (32 + j) = b j := fun j hj => by rw [z6H, if_neg (by omega), Nat.add_sub_cancel_left]
theorem z7U (r : Nat) (a b c : NN) (t : TypeId) : Shows [⟨r, arr .u8 96 (vT a b c), t⟩] 1 (.slice (some ⟨r, 32, none⟩) 32 32) ((List.range 32).map b).length (((List.range 32).map b).map by8) := by
 have h := WU r 96 (vT a b c) t 32 32 32 (by decide) (by decide)
 have e : (List.range 32).map (fun j => vT a b c (32 + j)) = (List.range 32).map b := List.map_congr_left fun j hj => z6m a b c j (List.mem_range.1 hj)
 rw [e] at h
 exact h
theorem z6X (h : NN) (v : Value) (l : LN) (hh : L8 32 h) (hv : Sh (DOR :: G) v l) (hb : By l) (hz : l.length ≤ 1073741792) : Fp (DOR :: G) 40 #[.agg (arr .u8 32 h), v] (.agg (arr .u8 32 (hx h l))) := by
 refine Qf1 Tryz.func40 ?_
 refine (g4)<|(Qh 0) fun r1=>(QH 1) fun r2=>Qn<|Qs<|QR ⟨[], 4, [], none, none⟩<|(Qsa 0 32)<|(Qm) ?_
 refine yl 2 [(.slice (some ⟨r1, 0, none⟩) 32 32), v].toArray (Uu 154 rfl) (Uz 22 rfl) (Ub 22 rfl) (by decide) (by decide) rfl (xL [(.slice (some ⟨r1, 0, none⟩) 32 32), v] 0 _ (by intro v hv; simp only [List.mem_cons, List.not_mem_nil, or_false] at hv; rcases hv with rfl | rfl; exact rfl; exact (yk hv)) (by simp)) rfl fun r3 => ?_
 refine zI 3 (fun v => v) rfl rfl (Un 67) (zf za (zf (ym 0 rfl ⟨[], trivial⟩) (ym 2 rfl ⟨[], trivial⟩))) (zeS (G := ((DOR :: G) ++ ([(⟨r1, arr .u8 32 h, 30⟩ : Blk)] ++ [(⟨r3, [(.slice (some ⟨r1, 0, none⟩) 32 32), v].toArray, 22⟩ : Blk)]))) r3 (.slice (some ⟨r1, 0, none⟩) 32 32) v ((List.range 32).map h) l (Shows.mono (xx r1 h 30) (fun x h => (List.mem_append_right _ (List.mem_append_left _ h)))) (Shows.mono hv (fun x h => (List.mem_append_left _ h))) (List.mem_append_right _ (List.mem_append_right _ (List.mem_singleton.2 rfl))) (by simp; omega)) (by simp [maxLen]; omega) (by rw [List.length_map, Nat.mul_one]) rfl rfl fun v1_1 oz1_1 ho1_1 => ?_
 refine zi rfl rfl (Un 66) (zf za (zH 3 rfl ⟨[], trivial⟩)) (zdS (G := G) (X := oz1_1.toList) v1_1 (((List.range 32).map h) ++ l) (zG ho1_1) (z8a (yv hh) hb) (by simp; omega)) rfl rfl ?_
 refine (ja)<|Qr ?_
 exact ⟨_, rfl, ya 1⟩
theorem WW (has : Bool) (k : NN) (n : Nat) (ch h : NN) (v : Value) (l : LN) (hv : Sh (DOR :: G) v l) (hb : By l) (hh : L8 32 h) (hz : l.length ≤ 1073741792) : Fp (DOR :: G) 16 #[SV has k n ch h, v] (SV has k n ch (hx h l)) := by
 have hB := z6X (G := G) h v l hh hv hb hz
 obtain ⟨g, hg⟩ : ∃ g, g = hx h l := ⟨_, rfl⟩
 rw [← hg] at hB ⊢
 refine Qf1 Tryz.func16 ?_
 refine (g4)<|(Qh 0) fun r1=>(QH 1) fun r2=>(gl)<|(Qf 66)<|(Qv 4 0)<|(Qm) ?_
 refine (Ca hB)<|(Qf 66)<|(QtC 0 4)<|Qn<|(gc) ?_
 refine (Av (SV has k n ch g))<|(QW 1)<|Qn<|Qr ?_
 exact ⟨_, rfl, yb 1⟩
theorem zeB (has : Bool) (k : NN) (n : Nat) (ch h : NN) (v : Value) (l : LN) (hv : Sh (DOR :: G) v l) (hb : By l) (hc : L8 32 ch) (hz : l.length ≤ 1073741760) : Fp (DOR :: G) 148 #[SV has k n ch h, v] (SV true (kB ch l) 0 (kA ch l) h) := by
 have hT := zgU (G := G) ch v l hc hv hb hz
 obtain ⟨fa, hfa⟩ : ∃ fa, fa = kA ch l := ⟨_, rfl⟩
 obtain ⟨fb, hfb⟩ : ∃ fb, fb = kB ch l := ⟨_, rfl⟩
 rw [← hfa, ← hfb] at hT ⊢
 refine Qf1 Tryz.func148 ?_
 refine (g4)<|(Qh 0) fun r1=>(QH 1) fun r2=>(gl)<|(Qf 34)<|(Qv 3 0)<|(Qm) ?_
 refine (Ca hT)<|(QH 2) fun r3=>(Qt 2)<|(gl)<|(QA 0 0)<|(Qls 2) ?_
 refine (Aa (zhC fa fb))<|(Qf 34)<|(QtC 0 3)<|(gl)<|(QA 32 1)<|(Qls 2) ?_
 refine (Aa (zhG fa fb)) ?_
 refine (Ca (z5D fb))<|(Qf 0)<|(QtK 0 0 3)<|Qn<|(gc) ?_
 refine (Av (SV true fb 0 fa h))<|(QW 1)<|Qn<|Qr ?_
 exact ⟨_, rfl, yb 1⟩
theorem zae {G X : Mem} (has : Bool) (k : NN) (n : Nat) (ch h : NN) (v : Value) (l : LN) (hv : Shows ((DOR :: G) ++ X) 1 v l.length (l.map by8)) (hb : By l) (hh : L8 32 h) (hz : l.length ≤ 1073741792) : Fp ((DOR :: G) ++ X) 16 #[SV has k n ch h, v] (SV has k n ch (hx h l)) := WW (G := G ++ X) has k n ch h v l hv hb hh hz
theorem zaz (has : Bool) (k : NN) (n : Nat) (ch h : NN) (v : Value) (l : LN) (hv : Sh (DOR :: G) v l) (hb : By l) (hc : L8 32 ch) (hh : L8 32 h) (hz : l.length ≤ 1073741760) : Fp (DOR :: G) 166 #[SV has k n ch h, v] (SV true (kC ch l) 0 (kA ch l) (hx h ((List.range 32).map (kB ch l)))) := by
 have hT := z2i (G := G) ch v l hc hv hb hz
 obtain ⟨fa, hfa⟩ : ∃ fa, fa = kA ch l := ⟨_, rfl⟩
 obtain ⟨fb, hfb⟩ : ∃ fb, fb = kB ch l := ⟨_, rfl⟩
 obtain ⟨fc, hfc⟩ : ∃ fc, fc = kC ch l := ⟨_, rfl⟩
 have hfb2 : ∀ j, j < 32 → fb j < 256 := fun j _ => by rw [hfb]; exact Zf _ _ _
 obtain ⟨g, hg⟩ : ∃ g, g = hx h ((List.range 32).map (kB ch l)) := ⟨_, rfl⟩
 rw [← hfa, ← hfc, ← hg]
 rw [← hfa, ← hfb, ← hfc] at hT
 refine Qf1 Tryz.func166 ?_
 refine (g4)<|(Qh 0) fun r1=>(QH 1) fun r2=>(gl)<|(Qf 34)<|(Qv 3 0)<|(Qm) ?_
 refine (Ca hT)<|(QH 2) fun r3=>(Qt 2)<|(gl)<|(QA 0 0)<|(Qls 2) ?_
 refine (Aa (z6y fa fb fc))<|(Qf 34)<|(QtC 0 3)<|(jf)<|(QD 0) ?_
 refine (Av (SV has k n fa h))<|(QA 32 1)<|(Qsa 0 32) ?_
 refine zi rfl rfl (Un 16) (zf za (ym 2 rfl ⟨[], trivial⟩)) (zae (G := G) (X := [(⟨r3, arr .u8 96 (vT fa fb fc), 79⟩ : Blk)]) has k n fa h _ ((List.range 32).map fb) (Shows.mono (z7U _ fa fb fc _) (fun x h => List.mem_append_right _ h)) (yv hfb2) hh (by simp)) rfl rfl ?_
 refine z6 (congrArg (fun f => SV has k n fa f) (show hx h ((List.range 32).map fb) = g by rw [hg, hfb])) ?_
 refine (QW 0)<|(gl)<|(QA 64 2)<|(Qls 2) ?_
 refine (Aa (zeI fa fb fc)) ?_
 refine (Ca (z5D fc))<|(Qf 0)<|(QtK 0 0 3)<|Qn<|(gc) ?_
 refine (Av (SV true fc 0 fa g))<|(QW 1)<|Qn<|Qr ?_
 exact ⟨_, rfl, yb 1⟩
theorem zd1 (has : Bool) (k : NN) (n : Nat) (ch h : NN) (h2 : Bool) (k2 : NN) (n2 : Nat) (v : Value) (l : LN) (hv : Sh (DOR :: G) v l) (hb : By l) (hh : L8 32 h) (hz : l.length ≤ 1073741792) : Fp (DOR :: G) 133 #[SV has k n ch h, CV h2 k2 n2, v] (SV h2 k2 n2 ch (hx h l)) := by
 refine Qf1 Tryz.func133 ?_
 refine (g4)<|(Qh 0) fun r1=>(Qh 1) fun r2=>(QH 2) fun r3=>(gl)<|(QD 1) ?_
 refine (Av (CV h2 k2 n2))<|(Qf 0)<|(QtK 0 0 3)<|Qn<|(gc) ?_
 refine (Av (SV h2 k2 n2 ch h))<|(Qm) ?_
 refine (Ca (WW h2 k2 n2 ch h v l hv hb hh hz))<|(QW 2)<|Qn<|Qr ?_
 exact ⟨_, rfl, yb 2⟩
end Go.Proofs.YtlidhfijmcelpaaGreatDoor
