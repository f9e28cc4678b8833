import Derived.Test.YtlidhfijmcelpaaGreatDoorKX12
set_option maxHeartbeats 4000000
set_option maxRecDepth 30000
attribute [local simp] Go.Proofs.YtlidhfijmcelpaaGreatDoor.By Go.Proofs.YtlidhfijmcelpaaGreatDoor.L8
namespace Go.Proofs.YtlidhfijmcelpaaGreatDoor
open Go Go.RowKit
variable {G : Mem}
theorem zb4 (h d : NN) (n ln : Nat) (v : Value) (l : LN) (hv : Sh (DOR :: G) v l) (hlb : By l) (hd : L8 64 d) (hok : okB n ln d = true) (hz : ln + l.length ≤ 1073741824) : Fp (DOR :: G) 107 #[.agg (cells 74 [pI .u32 8 h, pI .u8 64 d, pV (.int .i64 (n : Int)), pV (.int .i64 (ln : Int))]), v] (.agg (cells 74 [pI .u32 8 (Zb h (ln - n) (sS d n l) (yH (sS d n l).length)), pI .u8 64 (fun i => ((sS d n l).drop (64 * yH (sS d n l).length)).getD i 0), pV (.int .i64 (((sS d n l).drop (64 * yH (sS d n l).length)).length : Nat)), pV (.int .i64 (ln + l.length : Nat))])) := by
 obtain ⟨_, hnl, hn, hmod, _⟩ := Xq hok
 refine Qf1 Tryz.func107 ?_
 refine (g4)<|(Qh 0) fun r1=>(QH 1) fun r2=>Qn<|Qs<|Qb ?_
 refine QzK [(2, _), (4, _)] [(1, _)] (fun kk E m => ∃ (hh : Nat → Nat) (g : Nat → Nat) (nn : Nat) (q : Nat) (bv : Value), kk = ln + l.length - q ∧ E = [(1, bv)] ∧ m = [(0, some ⟨r1, cells 74 [pI .u32 8 hh, pI .u8 64 g, pV (.int .i64 ((nn : Nat) : Int)), pV (.int .i64 ((q : Nat) : Int))], 113⟩)] ∧ (ZD h d n ln l hh g nn q) ∧ (Shows (DOR :: G) 1 bv (l.drop (q - ln)).length ((l.drop (q - ln)).map by8))) ⟨h, d, n, ln, v, rfl, rfl, rfl, zbN l hok, (by rw [Nat.sub_self]; exact hv)⟩ ⟨rfl, rfl, rfl, trivial⟩ ⟨rfl, rfl, trivial⟩ ?_
 rintro kk E m ⟨hh, g, nn, q, bv, rfl, rfl, rfl, hf0_0, hf0_1⟩
 simp only [zq, zx]
 have hq1 := hf0_0.1
 have hq2 := hf0_0.2.1
 have hnn := zj1 hf0_0
 have hwl : (l.drop (q - ln)).length = l.length - (q - ln) := List.length_drop
 refine (ge)<|(QC hf0_1)<|(QG)<|Qn ?_
 refine zi rfl ?_ ?_
 ·intro hc0
  have hw0 : 0 < (l.drop (q - ln)).length := by have := of_decide_eq_true hc0; omega
  refine Qk<|Qb<|Qs<|Qs ?_
  rcases (by omega : nn = 64 ∨ nn < 64) with hN | hN
  ·skip
   refine Qp<|(j1)<|(Qc)<|Qn ?_
   refine zi rfl ?_ ?_
   ·intro hc1
    refine (gd) ?_
    refine (Ca (z7k hh g nn q (ziQ hd hn hlb hf0_0) (by omega)))<|(Qf 0)<|(QtC 0 0)<|Qn<|Qp ?_
    refine wo (Ub 111 rfl) (Uu 111 rfl) z4M rfl ?_
    refine (Qf 8)<|(QtC 0 1)<|(Qf 72)<|(QtV 0 2)<|(gj)<|(Qf 8)<|(j1) ?_
    refine xn 0 64 (Uu 111) (Uz 5) rfl rfl rfl ⟨_, rfl⟩ rfl (by omega) (by omega) (by omega) rfl ?_
    refine (Qm) ?_
    refine z45 (i := 0) (o := 8) (L := 64) 1 (0) (Uu 22) (Uz 5) hf0_1 ze rfl rfl rfl rfl (by omega) (by omega) (by decide) rfl ?_
    refine (j3)<|(j1) ?_
    refine (Av (ii 0))<|(Qm)<|(Q3)<|(Qf 72)<|(QtV 0 2)<|(gj)<|(Qf 73)<|(QV 3 0)<|(Qm)<|(Q3)<|(Qf 73)<|(QtV 0 3)<|Qn<|Qp<|(gb) ?_
    refine Xd _ (l.drop (q - ln)).length hf0_1 (Uu 22) (Uz 5) rfl rfl rfl ⟨_, rfl⟩ rfl (by omega) (by omega) rfl ?_
    refine (g3) ?_
    refine QzL ⟨_, _, _, _, _, rfl, rfl, rfl, (by first | exact z54 hnl hf0_0 hN hmod rfl hw0 rfl (fun _ _ => rfl) rfl rfl | exact z5S hf0_0 hN rfl hw0 (fun _ _ => rfl) rfl rfl), (z1G hf0_1 (by omega) hq1)⟩ ⟨rfl, rfl, rfl, trivial⟩ ⟨rfl, rfl, trivial⟩ ?_
    omega
   ·intro hc1
    exact absurd (of_decide_eq_false hc1) (by omega)
  ·skip
   refine Qp<|(j1)<|(Qc)<|Qn ?_
   refine zi rfl ?_ ?_
   ·intro hc1
    exact absurd (of_decide_eq_true hc1) (by omega)
   ·intro hc1
    refine Qk<|(g4)<|(Qf 8)<|(j1) ?_
    refine xn nn 64 (Uu 111) (Uz 5) rfl rfl rfl ⟨_, rfl⟩ rfl (by omega) (by omega) (by omega) rfl ?_
    refine (Qm) ?_
    refine z45 (i := 0) (o := 8) (L := 64) 1 (nn) (Uu 22) (Uz 5) hf0_1 ze rfl rfl rfl rfl (by omega) (by omega) (by decide) rfl ?_
    refine (j3)<|(j1)<|(Qm)<|(Q3)<|(Qf 72)<|(QtV 0 2)<|(gj)<|(Qf 73)<|(QV 3 0)<|(Qm)<|(Q3)<|(Qf 73)<|(QtV 0 3)<|Qn<|Qp<|(gb) ?_
    refine Xd _ (l.drop (q - ln)).length hf0_1 (Uu 22) (Uz 5) rfl rfl rfl ⟨_, rfl⟩ rfl (by omega) (by omega) rfl ?_
    refine (g3) ?_
    refine QzL ⟨_, _, _, _, _, rfl, rfl, rfl, (by first | exact z54 hnl hf0_0 hN hmod rfl hw0 rfl (fun _ _ => rfl) rfl rfl | exact z5S hf0_0 hN rfl hw0 (fun _ _ => rfl) rfl rfl), (z1G hf0_1 (by omega) hq1)⟩ ⟨rfl, rfl, rfl, trivial⟩ ⟨rfl, rfl, trivial⟩ ?_
    omega
 ·intro hc0
  have hw0 : (l.drop (q - ln)).length = 0 := by have := of_decide_eq_false hc0; omega
  obtain ⟨a1, a2, a3, a4⟩ := zdz hf0_0 hw0
  refine Qe<|(gd) ?_
  refine z6 (Eq.trans (show _ = .agg (cells 74 [pI .u32 8 hh, pI .u8 64 g, pV (.int .i64 ((nn : Nat) : Int)), pV (.int .i64 ((q : Nat) : Int))]) from rfl) (zdk a1 a2 a3 a4)) ?_
  refine (QW 1)<|Qn<|Qr ?_
  exact ⟨_, rfl, yb 1⟩
theorem z7d (h d : NN) (n ln : Nat) (hd : L8 64 d) (hl : ln < 4294967296) : Fp (DOR :: G) 106 #[.agg (cells 74 [pI .u32 8 h, pI .u8 64 d, pV (.int .i64 (n : Int)), pV (.int .i64 (ln : Int))])] (.agg (arr .u8 32 (Yd (sqz h ((List.range 64).map d) ln true)))) := by
 obtain ⟨w, hw⟩ : ∃ w, w = (sqz h ((List.range 64).map d) ln true) := ⟨_, rfl⟩
 rw [← hw]
 refine Qf1 Tryz.func106 ?_
 refine (g4)<|(Qh 0) fun r1=>(QH 1) fun r2=>Qn<|(gd) ?_
 refine (Ca (za0 h d n ln hd hl)) ?_
 refine z6 (congrArg (fun f => Value.agg (arr .u32 8 f)) hw.symm) ?_
 refine (QH 2) fun r3=>(Qt 2)<|(gj)<|(QH 3) fun r4=>Qn<|(ji) ?_
 refine QzK [(2, _), (3, _), (4, _)] [(0, _), (1, _), (2, _)] (fun kk E m => ∃ (i : Nat) (s : Nat → Nat), kk = 32 - i ∧ E = [(8, ii i)] ∧ m = [(3, some ⟨r4, arr .u8 32 s, 30⟩)] ∧ (i ≤ 32) ∧ (∀ t, t < i → s t = Yd w t)) ⟨0, fun _ => 0, rfl, rfl, rfl, by omega, fun t ht => absurd ht (Nat.not_lt_zero t)⟩ ⟨rfl, rfl, rfl, rfl, trivial⟩ ⟨rfl, rfl, rfl, rfl, trivial⟩ ?_
 rintro kk E m ⟨i, s, rfl, rfl, rfl, hf0_0, hf0_1⟩
 simp only [zq, zx]
 refine (gq) ?_
 refine (Qcd) (fun hc0=>?_) fun hc0=>?_
 ·have hc0 : i < 32 := by omega
  refine (jr)<|(g3)<|Qp<|(gb)<|(Q5 4)<|(Qi)<|(Q1 2)<|(Qm)<|(Q4 4)<|(Q6 8) ?_
  refine Z4 rfl rfl rfl (by omega) ?_
  refine yY (Uu 109) (Uu 5) rfl rfl rfl ?_
  refine (Qi)<|(Qu 3)<|(jc) ?_
  refine QzL ⟨i + 1, upd s i _, rfl, rfl, rfl, by omega, yN hf0_1 (zgW w (by omega))⟩ ⟨rfl, rfl, rfl, rfl, trivial⟩ ⟨rfl, rfl, rfl, rfl, trivial⟩ ?_
  omega
 ·have hz0 : i = 32 := by omega
  subst hz0
  refine (jo)<|(Qd 3)<|(j4)<|Qr ?_
  rw [← zh (k := .u8) (n := 32) hf0_1]
  exact ⟨_, rfl, ya 1⟩
theorem z4r {G : Mem} (m : LN) (v : Value) (l : LN) (hm : By m) (hv : Sh (DOR :: G) v l) (hlb : By l) (hz : m.length + l.length ≤ 1073741824) :
  Fn Tryz.prog (DOR :: G) 107 #[stB m, v] (stB (m ++ l)) := by
 have h := zb4 (G := G) (Vm m) (vg m) (yW m).length m.length v l hv hlb (fun j _ => Xj hm j) (Wh m) hz
 rw [z62, z8B, z5x, z1Q, ← List.length_append] at h
 exact h
theorem z5B {G : Mem} (m : LN) (hm : By m) (hz : m.length ≤ 1073741824) : Fp (DOR :: G) 106 #[stB m] (.agg (arr .u8 32 (vT m))) := by
 have h := z7d (G := G) (Vm m) (vg m) (yW m).length m.length (fun j _ => Xj hm j) (by omega)
 rw [← z0D hz] at h
 exact h
theorem z69 {G : Mem} : Fp G 108 #[] (stB []) := by
 rw [← z3g]; exact z7L
theorem z60 (v : Value) (l : LN) (hv : Sh (DOR :: G) v l) (hlb : By l) (hz : l.length ≤ 1073741824) : Fp (DOR :: G) 66 #[v] (.agg (arr .u8 32 (vT l))) := by
 refine Qf1 Tryz.func66 ?_
 refine (g4)<|(QH 0) fun r1=>(gj) ?_
 refine (Ca z69)<|(Qm) ?_
 refine (Ca (z4r [] v l (by simp) hv hlb (by simpa using hz))) ?_
 refine (Av (stB l)) ?_
 refine (Ca (z5B l hlb hz))<|(Qt 0)<|Qn<|Qr ?_
 exact ⟨_, rfl, ya 0⟩
theorem z76 (v : Value) (vs : List Value) (ls : List (LN)) (hv : Shows G 1 v vs.length vs) (hL : z0G G vs ls) (hn : vs.length ≤ 1099511627776) (hm : ls.flatten.length ≤ 1099511627776) : Fq G [] 222 #[v] (fun v l1 nw => l1 = [] ∧ ∃ v', v = v' ∧ OwnS 5 1 v' ls.flatten.length (ls.flatten.map by8) nw) := by
 have hvl := hL.1
 have hup := z8F ls
 refine QfN Tryz.func222 ?_
 refine (gc)<|(gc)<|(ge)<|(QC hv)<|(Qm)<|Qn<|Qb ?_
 refine QzK [(2, _), (6, _), (7, _)] [] (fun kk E m => ∃ (j : Nat) (w : Value) (oz : Option Blk), kk = vs.length - j ∧ E = [(3, w), (8, ii j)] ∧ m = [(50, oz)] ∧ (j ≤ vs.length) ∧ (OwnS 5 1 w (ZW ls j).length ((ZW ls j).map by8) (Option.toList oz))) ⟨0, yg, none, rfl, rfl, rfl, by omega, (wL _ _)⟩ ⟨rfl, rfl, rfl, rfl, rfl, trivial⟩ ⟨rfl, trivial⟩ ?_
 rintro kk E m ⟨j, w, oz, rfl, rfl, rfl, hf0_0, hf0_1⟩
 simp only [zq, zx]
 have hs3 := hup (j + 1)
 have hs4 : j < ls.length → (ZW ls (j + 1)).length = (ZW ls j).length + (ls.getD j []).length := fun h => by rw [wg h, List.length_append]
 refine (gq) ?_
 refine (Qcd) (fun hc0=>?_) fun hc0=>?_
 ·have hc0 : j < vs.length := by omega
  refine Qk<|Qs<|Qb<|(g4) ?_
  refine yf hv (Uu 154) (Uz 22) rfl rfl (by omega) rfl ?_
  refine (QS) ?_
  refine zS hv ze (Uu 22) rfl rfl (xz (by omega)) rfl ?_
  refine (g3)<|Qp<|(gb) ?_
  refine yB 50 hf0_1 (hL.2 j (by omega)) rfl ze (Uu 22) (Uz 5) (Uy 5) (Ub 5) (by rfl) rfl rfl vm (by have := hs4 (by omega); simp only [maxLen]; omega) (by have := hs4 (by omega); omega) rfl fun v2_1 oz2_1 ho2_1 => ?_
  refine (jb) ?_
  refine QzL ⟨j + 1, _, _, rfl, rfl, rfl, by omega, (zy ho2_1 (by rw [wg (by omega), List.length_append]) (by rw [wg (by omega), List.map_append]))⟩ ⟨rfl, rfl, rfl, rfl, rfl, trivial⟩ ⟨rfl, trivial⟩ ?_
  omega
 ·have hz0 : j = vs.length := by omega
  refine Qe<|(g6)<|(gt) ?_
  exact ⟨_, _, _, 50, rfl, yt, (zy hf0_1 (by rw [hz0, hvl, XN]) (by rw [hz0, hvl, XN])), rfl⟩
theorem z1e (p : LN) (x : Nat) (hp : p.length = 64) : Fq G [] 235 #[.agg (arr .u8 64 (fun j => p.getD j 0)), by8 x] (fun v l1 nw => l1 = [] ∧ ∃ v', v = v' ∧ OwnS 286 1 v' 64 ((xm p x).map by8) nw) := by
 refine QfN Tryz.func235 ?_
 refine (g4)<|(Qh 0) fun r1=>(g3)<|(ji) ?_
 refine QzK [(1, _), (2, _), (4, _)] [] (fun kk E m => ∃ (i : Nat) (s : Nat → Nat), kk = 64 - i ∧ E = [(6, ii i)] ∧ m = [(0, some ⟨r1, arr .u8 64 s, 286⟩)] ∧ (i ≤ 64) ∧ (∀ t, t < 64 → s t = if t < i then (p.getD t 0 ^^^ x) % 256 else p.getD t 0)) ⟨0, (fun j => p.getD j 0), rfl, rfl, rfl, by omega, z9N (k := fun j => p.getD j 0)⟩ ⟨rfl, rfl, rfl, rfl, trivial⟩ ⟨rfl, trivial⟩ ?_
 rintro kk E m ⟨i, s, rfl, rfl, rfl, hf0_0, hf0_1⟩
 simp only [zq, zx]
 refine (gq) ?_
 refine (Qcd) (fun hc0=>?_) fun hc0=>?_
 ·have hc0 : i < 64 := by omega
  refine (jr)<|(g3)<|(je)<|(gu)<|(Qm) ?_
  refine Z0 rfl rfl rfl  ?_
  refine (jj)<|(jc) ?_
  refine QzL ⟨i + 1, upd s i _, rfl, rfl, rfl, by omega, (zdr (k := fun j => p.getD j 0) hf0_1 (by omega) rfl)⟩ ⟨rfl, rfl, rfl, rfl, trivial⟩ ⟨rfl, trivial⟩ ?_
  omega
 ·have hz0 : i = 64 := by omega
  subst hz0
  refine (jo)<|(Qsa 0 64)<|(gt) ?_
  exact ⟨_, _, _, 0, rfl, yt, (Yi ((yi p x).trans hp) (by decide) (zek hp hf0_1)), rfl⟩
theorem zaE (v : Value) (k : LN) (hv : Sh (DOR :: G) v k) (hb : By k) (hz : k.length ≤ 1073741824) (hkl : 64 < k.length) : Fp (DOR :: G) 234 #[v] (.agg (arr .u8 64 (fun j => (X2 k).getD j 0))) := by
 have hmk : z0X k = (bsl k) := if_pos hkl
 have hkle := XL k
 rw [hmk] at hkle
 refine Qf1 Tryz.func234 ?_
 refine (g4)<|(QH 0) fun r1=>(gj)<|(QH 1) fun r2=>Qn<|(ge)<|(QC hv)<|(QG)<|(Qat)<|(gv)<|(g6) ?_
 refine (Ca (z60 v k hv hb hz))<|(QH 2) fun r3=>(Qt 2)<|Qn<|Qp<|(Qsa 0 32)<|(j3)<|(Qsa 0 64)<|(Qm) ?_
 refine z30 (i := 1) (Uu 22) (Uz 5) (show Shows _ 1 _ (bsl k).length ((bsl k).map by8) from y6 _ (vT k) _) (zZ 2 rfl ⟨[], trivial⟩) rfl rfl rfl (by omega) rfl ?_
 refine (gj)<|(Qd 1) ?_
 refine (Aa (zc8 hmk hkle rfl))<|(Qt 0)<|Qn<|Qr ?_
 exact ⟨_, rfl, ya 0⟩
theorem z6A (v : Value) (k : LN) (hv : Sh (DOR :: G) v k) (hkl : ¬ 64 < k.length) : Fp (DOR :: G) 234 #[v] (.agg (arr .u8 64 (fun j => (X2 k).getD j 0))) := by
 have hmk : z0X k = k := if_neg hkl
 have hkle := XL k
 rw [hmk] at hkle
 refine Qf1 Tryz.func234 ?_
 refine (g4)<|(QH 0) fun r1=>(gj)<|(QH 1) fun r2=>Qn<|(ge)<|(QC hv)<|(QG)<|(j8)<|(g4)<|(Qsa 0 64)<|(Qm) ?_
 refine z30 (i := 1) (Uu 22) (Uz 5) hv ze rfl rfl rfl (by omega) rfl ?_
 refine (gj)<|(Qd 1) ?_
 refine (Aa (zc8 hmk hkle rfl))<|(Qt 0)<|Qn<|Qr ?_
 exact ⟨_, rfl, ya 0⟩
theorem XO {G : Mem} (r : Nat) (v1 v2 : Value) (a b : LN) (h1 : Sh G v1 a) (h2 : Sh G v2 b) (hr : (⟨r, [v1, v2].toArray, 22⟩ : Blk) ∈ G) (hm : a.length + b.length ≤ 1099511627776) :
  Fx Tryz.prog G [] 222 #[.slice (some ⟨r, 0, none⟩) 2 2] (fun v l1 nw => l1 = [] ∧ ∃ v', v = v' ∧ OwnS 5 1 v' (a ++ b).length ((a ++ b).map by8) nw) := by
 have h := z76 (G := G) (.slice (some ⟨r, 0, none⟩) 2 2) [v1, v2] [a, b] ((xq (r := r) (len := 2) (z := 1) [v1, v2].toArray 22 rfl).mono (fun x hx => by simp at hx; subst hx; exact hr)) (yG h1 (yG h2 (X5 _))) (Nat.le_of_ble_eq_true rfl) (by simp; omega)
 have e : [a, b].flatten = a ++ b := by simp
 rw [e] at h
 exact h
theorem zhI {G : Mem} (v : Value) (k : LN) (hv : Sh (DOR :: G) v k) (hb : By k) (hz : k.length ≤ 1073741824) : Fp (DOR :: G) 234 #[v] (.agg (arr .u8 64 (fun j => (X2 k).getD j 0))) := by
 by_cases h : 64 < k.length
 ·exact zaE v k hv hb hz h
 ·exact z6A v k hv h
theorem zem {G X : Mem} (v : Value) (l : LN) (hv : Sh X v l) (hlb : By l) (hz : l.length ≤ 1073741824) : Fp ((DOR :: G) ++ X) 66 #[v] (.agg (arr .u8 32 (vT l))) :=
 z60 (G := G ++ X) v l (hv.mono fun _ h => List.mem_cons_of_mem _ (List.mem_append_right _ h)) hlb hz
theorem zep {p s : LN} {c : Nat} (h : By s) : ∀ b ∈ xm p c ++ s, b < 256 := fun b hb => (List.mem_append.1 hb).elim (XW p c b) (h b)
theorem zfn (vk vs : Value) (k s : LN) (hvk : Sh (DOR :: G) vk k) (hvs : Sh (DOR :: G) vs s) (hk : By k) (hb : By s) (hkm : k.length ≤ 1073741824) (hs : s.length ≤ 1073741760) : Fp (DOR :: G) 221 #[vk, vs] (.agg (arr .u8 32 (mac k s))) := by
 obtain ⟨P, hPe⟩ : ∃ P, P = X2 k := ⟨_, rfl⟩
 have hP : P.length = 64 := by rw [hPe]; exact z0w k
 have hFit := zhI (G := G) vk k hvk hk hkm
 rw [← hPe] at hFit
 obtain ⟨g, hg⟩ : ∃ g, g = vT (xm P 54 ++ s) := ⟨_, rfl⟩
 have hgl : bsl (xm P 54 ++ s) = (List.range 32).map g := by rw [hg]; rfl
 have hmc : vT (xm P 92 ++ (List.range 32).map g) = mac k s := by rw [← hgl, hPe]; rfl
 have hgb : ∀ b ∈ (List.range 32).map g, b < 256 := by rw [← hgl]; exact z3B _
 have hg32 : ((List.range 32).map g).length = 32 := by simp
 have hx5 := yi P 54
 have hx9 := yi P 92
 refine Qf1 Tryz.func221 ?_
 refine (g4)<|(QH 0) fun r1=>Qn<|(g6) ?_
 refine (Ca hFit)<|(QH 1) fun r2=>(j4)<|Qs<|QR ⟨[], 4, [], none, none⟩<|(Qd 1) ?_
 refine zG 2 (fun v => v) rfl rfl (Un 235) ze (z1e P 54 hP) (by decide) (by rw [List.length_map, yi, hP]) rfl rfl fun v1_1 oz1_1 ho1_1 => ?_
 refine (Qm) ?_
 refine yj 3 [v1_1, vs].toArray (Uu 154 rfl) (Uz 22 rfl) (Ub 22 rfl) (by decide) (by decide) rfl (xE [v1_1, vs] 0 _ (by intro v hv; simp only [List.mem_cons, List.not_mem_nil, or_false] at hv; rcases hv with rfl | rfl; exact (yk ho1_1.shows); exact (yk hvs)) (by simp)) rfl fun r4 => ?_
 refine zG 4 (fun v => v) rfl rfl (Un 222) (zf ze (zf (zL 2 rfl ⟨[], trivial⟩) (zZ 3 rfl ⟨[], trivial⟩))) (XO (G := ((DOR :: G) ++ (oz1_1.toList ++ [(⟨r4, [v1_1, vs].toArray, 22⟩ : Blk)]))) r4 v1_1 vs (xm P 54) s (Shows.mono (zY ho1_1) (fun x h => (List.mem_append_right _ (List.mem_append_left _ h)))) (Shows.mono hvs (fun x h => (List.mem_append_left _ h))) (List.mem_append_right _ (List.mem_append_right _ (List.mem_singleton.2 rfl))) (by rw [yi]; omega)) (by rw [List.length_append]; simp only [maxLen]; omega) (by rw [List.length_map, Nat.mul_one]) rfl rfl fun v1_2 oz1_2 ho1_2 => ?_
 refine zg rfl rfl (Un 66) (zf ze (zL 4 rfl ⟨[], trivial⟩)) (zem (G := G) (X := oz1_2.toList) v1_2 (xm P 54 ++ s) (zY ho1_2) (zep hb) (by rw [List.length_append, yi]; omega)) rfl rfl ?_
 refine (Af hg.symm)<|(QH 5) fun r6=>(Qt 5)<|Qn<|Qs<|(Qq ⟨[], 4, [], none, none⟩)<|(Qd 1) ?_
 refine zG 6 (fun v => v) rfl rfl (Un 235) ze (z1e P 92 hP) (by decide) (by rw [List.length_map, yi, hP]) rfl rfl fun v1_3 oz1_3 ho1_3 => ?_
 refine (Qsa 0 32) ?_
 refine yj 7 [v1_3, (.slice (some ⟨r6, 0, none⟩) 32 32)].toArray (Uu 154 rfl) (Uz 22 rfl) (Ub 22 rfl) (by decide) (by decide) rfl (xE [v1_3, (.slice (some ⟨r6, 0, none⟩) 32 32)] 0 _ (by intro v hv; simp only [List.mem_cons, List.not_mem_nil, or_false] at hv; rcases hv with rfl | rfl; exact (yk ho1_3.shows); exact rfl) (by simp)) rfl fun r8 => ?_
 refine zG 8 (fun v => v) rfl rfl (Un 222) (zf ze (zf (zL 6 rfl ⟨[], trivial⟩) (zf (zZ 5 rfl ⟨[], trivial⟩) (zZ 7 rfl ⟨[], trivial⟩)))) (XO (G := ((DOR :: G) ++ (oz1_3.toList ++ ([(⟨r6, arr .u8 32 g, 30⟩ : Blk)] ++ [(⟨r8, [v1_3, (.slice (some ⟨r6, 0, none⟩) 32 32)].toArray, 22⟩ : Blk)])))) r8 v1_3 (.slice (some ⟨r6, 0, none⟩) 32 32) (xm P 92) ((List.range 32).map g) (Shows.mono (zY ho1_3) (fun x h => (List.mem_append_right _ (List.mem_append_left _ h)))) (Shows.mono (y6 r6 g 30) (fun x h => (List.mem_append_right _ (List.mem_append_right _ (List.mem_append_left _ h))))) (List.mem_append_right _ (List.mem_append_right _ (List.mem_append_right _ (List.mem_singleton.2 rfl)))) (by rw [yi]; omega)) (by rw [List.length_append]; simp only [maxLen]; omega) (by rw [List.length_map, Nat.mul_one]) rfl rfl fun v1_4 oz1_4 ho1_4 => ?_
 refine zg rfl rfl (Un 66) (zf ze (zL 8 rfl ⟨[], trivial⟩)) (zem (G := G) (X := oz1_4.toList) v1_4 (xm P 92 ++ (List.range 32).map g) (zY ho1_4) (zep hgb) (by rw [List.length_append, yi]; omega)) rfl rfl ?_
 refine (Af hmc)<|(Qt 0)<|Qn<|Qr ?_
 exact ⟨_, rfl, ya 0⟩
theorem W7 {G X : Mem} (vk vs : Value) (k s : LN) (hvk : Shows ((DOR :: G) ++ X) 1 vk k.length (k.map by8)) (hvs : Shows ((DOR :: G) ++ X) 1 vs s.length (s.map by8)) (hk : By k) (hb : By s) (hkm : k.length ≤ 1073741824) (hs : s.length ≤ 1073741760) : Fp ((DOR :: G) ++ X) 221 #[vk, vs] (.agg (arr .u8 32 (mac k s))) :=
 zfn (G := G ++ X) vk vs k s hvk hvs hk hb hkm hs
theorem z0B (r x : Nat) (t : TypeId) : Shows [⟨r, #[by8 x], t⟩] 1 (.slice (some ⟨r, 0, none⟩) 1 1) [x].length ([x].map by8) := xq (r := r) (len := 1) (z := 1) #[by8 x] t rfl
theorem zdI (a b : NN) : Instr.fill (fun i => some (i * 32, 32)) (arr .u8 64 fun _ => 0) [(0, .agg (arr .u8 32 a)), (1, .agg (arr .u8 32 b))] = some (arr .u8 64 (z7a a b)) := by kernel_rfl
theorem zeS (a b c : NN) : ∀ j, j < 32 → vR a b c (0 + j) = a j := fun j hj => by rw [Nat.zero_add, vR, if_pos hj]
theorem zdK (a b c : NN) : ∀ j, j < 32 → vR a b c (32 + j) = b j := fun j hj => by rw [vR, if_neg (by omega), if_pos (by omega), Nat.add_sub_cancel_left]
theorem z28 (c : NN) (v : Value) (s : LN) (hc : L8 32 c) (hv : Sh (DOR :: G) v s) (hb : By s) (hs : s.length ≤ 1073741760) : Fp (DOR :: G) 194 #[.agg (arr .u8 32 c), v] (.agg (arr .u8 96 (vR (kA c s) (kB c s) (kC c s)))) := by
 obtain ⟨f, hf⟩ : ∃ f, f = mac ((List.range 32).map c) s := ⟨_, rfl⟩
 have hT : kT c s = ((List.range 32).map f) := by rw [hf]; rfl
 have hfb : ∀ b ∈ ((List.range 32).map f), b < 256 := by rw [← hT]; exact zi2 c s
 obtain ⟨fA, hA⟩ : ∃ x, x = kA c s := ⟨_, rfl⟩
 obtain ⟨fB, hB⟩ : ∃ x, x = kB c s := ⟨_, rfl⟩
 obtain ⟨fC, hC⟩ : ∃ x, x = kC c s := ⟨_, rfl⟩
 have eA : mac ((List.range 32).map f) [1] = fA := by rw [hA, kA, hT]
 have eB : mac ((List.range 32).map f) (((List.range 32).map fA) ++ [2]) = fB := by rw [hB, kB, hT, hA]
 have eC : mac ((List.range 32).map f) (((List.range 32).map fB) ++ [3]) = fC := by rw [hC, kC, hT, hB]
 have hfAb : ∀ b ∈ ((List.range 32).map fA), b < 256 := by rw [hA]; exact yq fun _ _ => Ze _ _ _
 have hfBb : ∀ b ∈ ((List.range 32).map fB), b < 256 := by rw [hB]; exact yq fun _ _ => Ze _ _ _
 rw [← hA, ← hB, ← hC]
 refine Qf1 Tryz.func194 ?_
 refine (g4)<|(Qh 0) fun r1=>(QH 1) fun r2=>(gj)<|(Qsa 0 32)<|(Qm) ?_
 refine zg rfl rfl (Un 221) (zf ze (zZ 0 rfl ⟨[], trivial⟩)) (W7 (G := G) (X := [(⟨r1, arr .u8 32 c, 30⟩ : Blk)]) (.slice (some ⟨r1, 0, none⟩) 32 32) v ((List.range 32).map c) s (Shows.mono (y6 r1 c 30) (fun x h => List.mem_append_right _ h)) (Shows.mono hv (fun x h => List.mem_append_left _ h)) (yq hc) hb (by simp) hs) rfl rfl ?_
 refine (Af hf.symm)<|(QH 2) fun r3=>(Qt 2)<|(gj)<|(Qsa 0 32) ?_
 refine yj 3 #[by8 1] (Uu 22 rfl) (Uz 5 rfl) (Ub 5 rfl) (by decide) (by decide) rfl (by kernel_rfl) rfl fun r4 => ?_
 refine zg rfl rfl (Un 221) (zf ze (zf (zZ 2 rfl ⟨[], trivial⟩) (zZ 3 rfl ⟨[], trivial⟩))) (W7 (G := G) (X := ([(⟨r3, arr .u8 32 f, 30⟩ : Blk)] ++ [(⟨r4, #[by8 1], 5⟩ : Blk)])) (.slice (some ⟨r3, 0, none⟩) 32 32) (.slice (some ⟨r4, 0, none⟩) 1 1) ((List.range 32).map f) [1] (Shows.mono (y6 r3 f 30) (fun x h => List.mem_append_right _ (List.mem_append_left _ h))) (Shows.mono (z0B r4 1 5) (fun x h => List.mem_append_right _ (List.mem_append_right _ h))) hfb (by decide) (by simp) (by decide)) rfl rfl ?_
 refine (Af eA)<|(QH 4) fun r5=>(Qt 4)<|Qn<|Qs<|(Qq ⟨[], 4, [], none, none⟩)<|(Qsa 0 32)<|(Qsa 0 32) ?_
 refine yj 5 #[by8 2] (Uu 22 rfl) (Uz 5 rfl) (Ub 5 rfl) (by decide) (by decide) rfl (by kernel_rfl) rfl fun r6 => ?_
 refine yj 6 [(.slice (some ⟨r5, 0, none⟩) 32 32), (.slice (some ⟨r6, 0, none⟩) 1 1)].toArray (Uu 154 rfl) (Uz 22 rfl) (Ub 22 rfl) (by decide) (by decide) rfl (xE [(.slice (some ⟨r5, 0, none⟩) 32 32), (.slice (some ⟨r6, 0, none⟩) 1 1)] 0 _ (by intro v hv; simp only [List.mem_cons, List.not_mem_nil, or_false] at hv; rcases hv with rfl | rfl; exact rfl; exact rfl) (by simp)) rfl fun r7 => ?_
 refine zG 7 (fun v => v) rfl rfl (Un 222) (zf ze (zf (zZ 4 rfl ⟨[], trivial⟩) (zf (zZ 5 rfl ⟨[], trivial⟩) (zZ 6 rfl ⟨[], trivial⟩)))) (XO (G := ((DOR :: G) ++ ([(⟨r5, arr .u8 32 fA, 30⟩ : Blk)] ++ ([(⟨r6, #[by8 2], 5⟩ : Blk)] ++ [(⟨r7, [(.slice (some ⟨r5, 0, none⟩) 32 32), (.slice (some ⟨r6, 0, none⟩) 1 1)].toArray, 22⟩ : Blk)])))) r7 (.slice (some ⟨r5, 0, none⟩) 32 32) (.slice (some ⟨r6, 0, none⟩) 1 1) ((List.range 32).map fA) [2] (Shows.mono (y6 r5 fA 30) (fun x h => (List.mem_append_right _ (List.mem_append_left _ h)))) (Shows.mono (z0B r6 2 5) (fun x h => (List.mem_append_right _ (List.mem_append_right _ (List.mem_append_left _ h))))) (List.mem_append_right _ (List.mem_append_right _ (List.mem_append_right _ (List.mem_singleton.2 rfl)))) (by simp)) (by simp [maxLen]) (by rw [List.length_map, Nat.mul_one]) rfl rfl fun v1_1 oz1_1 ho1_1 => ?_
 refine zg rfl rfl (Un 221) (zf ze (zf (zZ 2 rfl ⟨[], trivial⟩) (zL 7 rfl ⟨[], trivial⟩))) (W7 (G := G) (X := ([(⟨r3, arr .u8 32 f, 30⟩ : Blk)] ++ oz1_1.toList)) (.slice (some ⟨r3, 0, none⟩) 32 32) v1_1 ((List.range 32).map f) (((List.range 32).map fA) ++ [2]) (Shows.mono (y6 r3 f 30) (fun x h => List.mem_append_right _ (List.mem_append_left _ h))) (Shows.mono (zY ho1_1) (fun x h => List.mem_append_right _ (List.mem_append_right _ h))) hfb (z3F hfAb (by decide)) (by simp) (by simp)) rfl rfl ?_
 refine (Af eB)<|(QH 8) fun r9=>(Qt 8)<|Qn<|Qs<|(Qq ⟨[], 4, [], none, none⟩)<|(Qsa 0 32)<|(Qsa 0 32) ?_
 refine yj 9 #[by8 3] (Uu 22 rfl) (Uz 5 rfl) (Ub 5 rfl) (by decide) (by decide) rfl (by kernel_rfl) rfl fun r10 => ?_
 refine yj 10 [(.slice (some ⟨r9, 0, none⟩) 32 32), (.slice (some ⟨r10, 0, none⟩) 1 1)].toArray (Uu 154 rfl) (Uz 22 rfl) (Ub 22 rfl) (by decide) (by decide) rfl (xE [(.slice (some ⟨r9, 0, none⟩) 32 32), (.slice (some ⟨r10, 0, none⟩) 1 1)] 0 _ (by intro v hv; simp only [List.mem_cons, List.not_mem_nil, or_false] at hv; rcases hv with rfl | rfl; exact rfl; exact rfl) (by simp)) rfl fun r11 => ?_
 refine zG 11 (fun v => v) rfl rfl (Un 222) (zf ze (zf (zZ 8 rfl ⟨[], trivial⟩) (zf (zZ 9 rfl ⟨[], trivial⟩) (zZ 10 rfl ⟨[], trivial⟩)))) (XO (G := ((DOR :: G) ++ ([(⟨r9, arr .u8 32 fB, 30⟩ : Blk)] ++ ([(⟨r10, #[by8 3], 5⟩ : Blk)] ++ [(⟨r11, [(.slice (some ⟨r9, 0, none⟩) 32 32), (.slice (some ⟨r10, 0, none⟩) 1 1)].toArray, 22⟩ : Blk)])))) r11 (.slice (some ⟨r9, 0, none⟩) 32 32) (.slice (some ⟨r10, 0, none⟩) 1 1) ((List.range 32).map fB) [3] (Shows.mono (y6 r9 fB 30) (fun x h => (List.mem_append_right _ (List.mem_append_left _ h)))) (Shows.mono (z0B r10 3 5) (fun x h => (List.mem_append_right _ (List.mem_append_right _ (List.mem_append_left _ h))))) (List.mem_append_right _ (List.mem_append_right _ (List.mem_append_right _ (List.mem_singleton.2 rfl)))) (by simp)) (by simp [maxLen]) (by rw [List.length_map, Nat.mul_one]) rfl rfl fun v1_2 oz1_2 ho1_2 => ?_
 refine zg rfl rfl (Un 221) (zf ze (zf (zZ 2 rfl ⟨[], trivial⟩) (zL 11 rfl ⟨[], trivial⟩))) (W7 (G := G) (X := ([(⟨r3, arr .u8 32 f, 30⟩ : Blk)] ++ oz1_2.toList)) (.slice (some ⟨r3, 0, none⟩) 32 32) v1_2 ((List.range 32).map f) (((List.range 32).map fB) ++ [3]) (Shows.mono (y6 r3 f 30) (fun x h => List.mem_append_right _ (List.mem_append_left _ h))) (Shows.mono (zY ho1_2) (fun x h => List.mem_append_right _ (List.mem_append_right _ h))) hfb (z3F hfBb (by decide)) (by simp) (by simp)) rfl rfl ?_
 refine (Af eC)<|(QH 12) fun r13=>(Qt 12)<|(gj)<|(Qd 4)<|(Qd 8)<|(Qd 12) ?_
 refine wn (arr .u8 96 (vR fA fB fC)) (Ub 79 rfl) (Uu 79 rfl) (Uz 30 rfl) rfl (z0Z fA fB fC) rfl ?_
 refine (j4)<|Qr ?_
 exact ⟨_, rfl, ya 1⟩
theorem zge (c : NN) (v : Value) (s : LN) (hc : L8 32 c) (hv : Sh (DOR :: G) v s) (hb : By s) (hs : s.length ≤ 1073741760) : Fp (DOR :: G) 187 #[.agg (arr .u8 32 c), v] (.agg (arr .u8 64 (z7a (kA c s) (kB c s)))) := by
 have h3 := z28 (G := G) c v s hc hv hb hs
 obtain ⟨fA, hA⟩ : ∃ x, x = kA c s := ⟨_, rfl⟩
 obtain ⟨fB, hB⟩ : ∃ x, x = kB c s := ⟨_, rfl⟩
 obtain ⟨fC, hC⟩ : ∃ x, x = kC c s := ⟨_, rfl⟩
 rw [← hA, ← hB, ← hC] at h3
 rw [← hA, ← hB]
 refine Qf1 Tryz.func187 ?_
 refine (g4)<|(Qh 0) fun r1=>(QH 1) fun r2=>(gj)<|(Qd 0)<|(Qm) ?_
 refine (Ca h3)<|(QH 2) fun r3=>(Qt 2)<|(gj)<|(QA 0 0)<|(Qls 2) ?_
 refine (Aa (zeS fA fB fC))<|(QA 32 1)<|(Qls 2) ?_
 refine (Aa (zdK fA fB fC)) ?_
 refine wn (arr .u8 64 (z7a fA fB)) (Ub 227 rfl) (Uu 227 rfl) (Uz 30 rfl) rfl (zdI fA fB) rfl ?_
 refine (j4)<|Qr ?_
 exact ⟨_, rfl, ya 1⟩
theorem zcT {G : Mem} (r : Nat) (v1 v2 : Value) (a b : LN) (h1 : Sh G v1 a) (h2 : Sh G v2 b) (hr : (⟨r, [v1, v2].toArray, 22⟩ : Blk) ∈ G) (hm : a.length + b.length ≤ 1099511627776) :
  Fx Tryz.prog G [] 67 #[.slice (some ⟨r, 0, none⟩) 2 2] (fun v l1 nw => l1 = [] ∧ ∃ v', v = v' ∧ OwnS 5 1 v' (a ++ b).length ((a ++ b).map by8) nw) := by
 have h := z2m (G := G) (.slice (some ⟨r, 0, none⟩) 2 2) [v1, v2] [a, b] ((xq (r := r) (len := 2) (z := 1) [v1, v2].toArray 22 rfl).mono (fun x hx => by simp at hx; subst hx; exact hr)) (yG h1 (yG h2 (X5 _))) (Nat.le_of_ble_eq_true rfl) (by simp; omega)
 have e : [a, b].flatten = a ++ b := by simp
 rw [e] at h
 exact h
theorem zg2 (a b : NN) : ∀ j, j < 32 → z7a a b (0 + j) = a j := fun j hj => by rw [Nat.zero_add, z7a, if_pos hj]
theorem zgi (a b : NN) : ∀ j, j < 32 → z7a a b (32 + j) = b j := fun j hj => by rw [z7a, if_neg (by omega), Nat.add_sub_cancel_left]
theorem z6B (r : Nat) (a b c : NN) (t : TypeId) : Shows [⟨r, arr .u8 96 (vR a b c), t⟩] 1 (.slice (some ⟨r, 32, none⟩) 32 32) ((List.range 32).map b).length (((List.range 32).map b).map by8) := by
 have h := YG r 96 (vR a b c) t 32 32 32 (by decide) (by decide)
 have e : (List.range 32).map (fun j => vR a b c (32 + j)) = (List.range 32).map b := List.map_congr_left fun j hj => z7z a b c j (List.mem_range.1 hj)
 rw [e] at h
 exact h
theorem z77 (h : NN) (v : Value) (l : LN) (hh : L8 32 h) (hv : Sh (DOR :: G) v l) (hb : By l) (hz : l.length ≤ 1073741792) : Fp (DOR :: G) 40 #[.agg (arr .u8 32 h), v] (.agg (arr .u8 32 (hx h l))) := by
 refine Qf1 Tryz.func40 ?_
 refine (g4)<|(Qh 0) fun r1=>(QH 1) fun r2=>Qn<|Qs<|QR ⟨[], 4, [], none, none⟩<|(Qsa 0 32)<|(Qm) ?_
 refine yj 2 [(.slice (some ⟨r1, 0, none⟩) 32 32), v].toArray (Uu 154 rfl) (Uz 22 rfl) (Ub 22 rfl) (by decide) (by decide) rfl (xE [(.slice (some ⟨r1, 0, none⟩) 32 32), v] 0 _ (by intro v hv; simp only [List.mem_cons, List.not_mem_nil, or_false] at hv; rcases hv with rfl | rfl; exact rfl; exact (yk hv)) (by simp)) rfl fun r3 => ?_
 refine zG 3 (fun v => v) rfl rfl (Un 67) (zf ze (zf (zZ 0 rfl ⟨[], trivial⟩) (zZ 2 rfl ⟨[], trivial⟩))) (zcT (G := ((DOR :: G) ++ ([(⟨r1, arr .u8 32 h, 30⟩ : Blk)] ++ [(⟨r3, [(.slice (some ⟨r1, 0, none⟩) 32 32), v].toArray, 22⟩ : Blk)]))) r3 (.slice (some ⟨r1, 0, none⟩) 32 32) v ((List.range 32).map h) l (Shows.mono (y6 r1 h 30) (fun x h => (List.mem_append_right _ (List.mem_append_left _ h)))) (Shows.mono hv (fun x h => (List.mem_append_left _ h))) (List.mem_append_right _ (List.mem_append_right _ (List.mem_singleton.2 rfl))) (by simp; omega)) (by simp [maxLen]; omega) (by rw [List.length_map, Nat.mul_one]) rfl rfl fun v1_1 oz1_1 ho1_1 => ?_
 refine zg rfl rfl (Un 66) (zf ze (zL 3 rfl ⟨[], trivial⟩)) (zem (G := G) (X := oz1_1.toList) v1_1 (((List.range 32).map h) ++ l) (zY ho1_1) (z8S (yq hh) hb) (by simp; omega)) rfl rfl ?_
 refine (j4)<|Qr ?_
 exact ⟨_, rfl, ya 1⟩
theorem WC (has : Bool) (k : NN) (n : Nat) (ch h : NN) (v : Value) (l : LN) (hv : Sh (DOR :: G) v l) (hb : By l) (hh : L8 32 h) (hz : l.length ≤ 1073741792) : Fp (DOR :: G) 16 #[SV has k n ch h, v] (SV has k n ch (hx h l)) := by
 have hB := z77 (G := G) h v l hh hv hb hz
 obtain ⟨g, hg⟩ : ∃ g, g = hx h l := ⟨_, rfl⟩
 rw [← hg] at hB ⊢
 refine Qf1 Tryz.func16 ?_
 refine (g4)<|(Qh 0) fun r1=>(QH 1) fun r2=>(gj)<|(Qf 66)<|(Qv 4 0)<|(Qm) ?_
 refine (Ca hB)<|(Qf 66)<|(QtC 0 4)<|Qn<|(gd) ?_
 refine (Av (SV has k n ch g))<|(QW 1)<|Qn<|Qr ?_
 exact ⟨_, rfl, yb 1⟩
theorem zcx (has : Bool) (k : NN) (n : Nat) (ch h : NN) (v : Value) (l : LN) (hv : Sh (DOR :: G) v l) (hb : By l) (hc : L8 32 ch) (hz : l.length ≤ 1073741760) : Fp (DOR :: G) 148 #[SV has k n ch h, v] (SV true (kB ch l) 0 (kA ch l) h) := by
 have hT := zge (G := G) ch v l hc hv hb hz
 obtain ⟨fa, hfa⟩ : ∃ fa, fa = kA ch l := ⟨_, rfl⟩
 obtain ⟨fb, hfb⟩ : ∃ fb, fb = kB ch l := ⟨_, rfl⟩
 rw [← hfa, ← hfb] at hT ⊢
 refine Qf1 Tryz.func148 ?_
 refine (g4)<|(Qh 0) fun r1=>(QH 1) fun r2=>(gj)<|(Qf 34)<|(Qv 3 0)<|(Qm) ?_
 refine (Ca hT)<|(QH 2) fun r3=>(Qt 2)<|(gj)<|(QA 0 0)<|(Qls 2) ?_
 refine (Aa (zg2 fa fb))<|(Qf 34)<|(QtC 0 3)<|(gj)<|(QA 32 1)<|(Qls 2) ?_
 refine (Aa (zgi fa fb)) ?_
 refine (Ca (z5U fb))<|(Qf 0)<|(QtK 0 0 3)<|Qn<|(gd) ?_
 refine (Av (SV true fb 0 fa h))<|(QW 1)<|Qn<|Qr ?_
 exact ⟨_, rfl, yb 1⟩
theorem zbt {G X : Mem} (has : Bool) (k : NN) (n : Nat) (ch h : NN) (v : Value) (l : LN) (hv : Shows ((DOR :: G) ++ X) 1 v l.length (l.map by8)) (hb : By l) (hh : L8 32 h) (hz : l.length ≤ 1073741792) : Fp ((DOR :: G) ++ X) 16 #[SV has k n ch h, v] (SV has k n ch (hx h l)) := WC (G := G ++ X) has k n ch h v l hv hb hh hz
theorem zap (has : Bool) (k : NN) (n : Nat) (ch h : NN) (v : Value) (l : LN) (hv : Sh (DOR :: G) v l) (hb : By l) (hc : L8 32 ch) (hh : L8 32 h) (hz : l.length ≤ 1073741760) : Fp (DOR :: G) 166 #[SV has k n ch h, v] (SV true (kC ch l) 0 (kA ch l) (hx h ((List.range 32).map (kB ch l)))) := by
 have hT := z28 (G := G) ch v l hc hv hb hz
 obtain ⟨fa, hfa⟩ : ∃ fa, fa = kA ch l := ⟨_, rfl⟩
 obtain ⟨fb, hfb⟩ : ∃ fb, fb = kB ch l := ⟨_, rfl⟩
 obtain ⟨fc, hfc⟩ : ∃ fc, fc = kC ch l := ⟨_, rfl⟩
 have hfb2 : ∀ j, j < 32 → fb j < 256 := fun j _ => by rw [hfb]; exact Ze _ _ _
 obtain ⟨g, hg⟩ : ∃ g, g = hx h ((List.range 32).map (kB ch l)) := ⟨_, rfl⟩
 rw [← hfa, ← hfc, ← hg]
 rw [← hfa, ← hfb, ← hfc] at hT
 refine Qf1 Tryz.func166 ?_
 refine (g4)<|(Qh 0) fun r1=>(QH 1) fun r2=>(gj)<|(Qf 34)<|(Qv 3 0)<|(Qm) ?_
 refine (Ca hT)<|(QH 2) fun r3=>(Qt 2)<|(gj)<|(QA 0 0)<|(Qls 2) ?_
 refine (Aa (z6p fa fb fc))<|(Qf 34)<|(QtC 0 3)<|(jf)<|(QD 0) ?_
 refine (Av (SV has k n fa h))<|(QA 32 1)<|(Qsa 0 32) ?_
 refine zg rfl rfl (Un 16) (zf ze (zZ 2 rfl ⟨[], trivial⟩)) (zbt (G := G) (X := [(⟨r3, arr .u8 96 (vR fa fb fc), 79⟩ : Blk)]) has k n fa h _ ((List.range 32).map fb) (Shows.mono (z6B _ fa fb fc _) (fun x h => List.mem_append_right _ h)) (yq hfb2) hh (by simp)) rfl rfl ?_
 refine z6 (congrArg (fun f => SV has k n fa f) (show hx h ((List.range 32).map fb) = g by rw [hg, hfb])) ?_
 refine (QW 0)<|(gj)<|(QA 64 2)<|(Qls 2) ?_
 refine (Aa (zde fa fb fc)) ?_
 refine (Ca (z5U fc))<|(Qf 0)<|(QtK 0 0 3)<|Qn<|(gd) ?_
 refine (Av (SV true fc 0 fa g))<|(QW 1)<|Qn<|Qr ?_
 exact ⟨_, rfl, yb 1⟩
theorem zfb (has : Bool) (k : NN) (n : Nat) (ch h : NN) (h2 : Bool) (k2 : NN) (n2 : Nat) (v : Value) (l : LN) (hv : Sh (DOR :: G) v l) (hb : By l) (hh : L8 32 h) (hz : l.length ≤ 1073741792) : Fp (DOR :: G) 133 #[SV has k n ch h, CV h2 k2 n2, v] (SV h2 k2 n2 ch (hx h l)) := by
 refine Qf1 Tryz.func133 ?_
 refine (g4)<|(Qh 0) fun r1=>(Qh 1) fun r2=>(QH 2) fun r3=>(gj)<|(QD 1) ?_
 refine (Av (CV h2 k2 n2))<|(Qf 0)<|(QtK 0 0 3)<|Qn<|(gd) ?_
 refine (Av (SV h2 k2 n2 ch h))<|(Qm) ?_
 refine (Ca (WC h2 k2 n2 ch h v l hv hb hh hz))<|(QW 2)<|Qn<|Qr ?_
 exact ⟨_, rfl, yb 2⟩
theorem zd8 {G : Mem} (hO : DOR ∈ G) (y : SY) (hy : okY y) (v : Value) (l : LN) (hv : Sh G v l) (hb : By l) (hz : l.length ≤ 1000000) : Fp G 16 #[SVy y, v] (SVy (Yb y l)) :=
 (WC (G := G) y.1 y.2.1 y.2.2.1 y.2.2.2.1 y.2.2.2.2 v l (hv.mono fun _ h => List.mem_cons_of_mem _ h) hb hy.2.2.2 (by omega)).more (in1 hO)
theorem z3L {G : Mem} (hO : DOR ∈ G) (y : SY) (hy : okY y) (v : Value) (l : LN) (hv : Sh G v l) (hb : By l) (hz : l.length ≤ 1000000) : Fp G 148 #[SVy y, v] (SVy (X6 y l)) := by
 have h := (zcx (G := G) y.1 y.2.1 y.2.2.1 y.2.2.2.1 y.2.2.2.2 v l (hv.mono fun _ h => List.mem_cons_of_mem _ h) hb hy.2.2.1 (by omega)).more (in1 hO)
 unfold X6
 generalize kB y.2.2.2.1 l = fb at h ⊢
 generalize kA y.2.2.2.1 l = fa at h ⊢
 exact h
theorem zbm (hO : DOR ∈ G) (y : SY) (hy : okY y) (f : NN) (hf : B32 f) : Fp G 68 #[SVy y, .agg (arr .u8 32 f)] (SVy (Yb y (ky f))) := by
 obtain ⟨y2, hy2⟩ : ∃ y2, y2 = Yb y (ky f) := ⟨_, rfl⟩
 rw [← hy2]
 refine Qf1 Tryz.func68 ?_
 refine (g4)<|(Qh 0) fun r1=>(Qh 1) fun r2=>(QH 2) fun r3=>(jf)<|(QD 0) ?_
 refine (Av (SVy y))<|(Qsa 0 32) ?_
 refine zg rfl rfl (Un 16) (zf ze (zZ 1 rfl ⟨[], trivial⟩)) (zd8 (G := G ++ [(⟨r2, arr .u8 32 f, 30⟩ : Blk)]) (List.mem_append_left _ hO) y hy _ (ky f) ((y6 _ f _).mono (fun x h => List.mem_append_right _ h)) (xK hf) (by simp)) rfl rfl ?_
 refine z6 (congrArg SVy hy2.symm) ?_
 refine (QW 2)<|Qn<|Qr ?_
 exact ⟨_, rfl, yb 2⟩
theorem zdL (hO : DOR ∈ G) (b : LN) (l : Bool) (vp v0 v1 vt : Value) (fi : Bool) (tn : Int) (dd : Bool) (y : SY) (r : RS) (ow : NN) (vk : Value) (us : Int) (f : NN) (ps : List (NN)) (hk : Shows G 32 vk ps.length (psC ps)) (h1 : xU vp v0 v1 vt vk) (hy : okY y) (hf : B32 f) : Fp G 111 #[.agg (shC b l vp v0 v1 vt fi tn dd y ow r vk us), .agg (arr .u8 32 f)] (.agg (shC b l vp v0 v1 vt fi tn dd (xk (npk ps) y f) ow r vk us)) := by
 obtain ⟨z, hz⟩ : ∃ z, z = xk (npk ps) y f := ⟨_, rfl⟩
 obtain ⟨y2, hy2⟩ : ∃ y2, y2 = Yb y (ky f) := ⟨_, rfl⟩
 have hyb : okY y2 := by rw [hy2]; exact Y7 hy _
 rw [← hz]
 refine Qf1 Tryz.func111 ?_
 refine (g4)<|(Qh 0) fun r1=>(Qh 1) fun r2=>(QH 2) fun r3=>(gj)<|(gy) ?_
 refine (Av (SVy y))<|(Qd 1) ?_
 refine (Ca (zbm hO y hy f hf)) ?_
 refine z6 (congrArg SVy hy2.symm) ?_
 refine (j7) ?_
 refine yM (c' := shC b l vp v0 v1 vt fi tn dd y2 ow r vk us) rfl ?_
 refine Qn<|(gs)<|(Qf 238)<|(QV 21 0)<|(QC hk)<|(QG)<|Qn ?_
 refine (Qcd) (fun hc0=>?_) fun hc0=>?_
 ·have hz3 : z = X6 y2 (ky f) := by rw [hz, xk, if_pos (by show npk ps = true; exact decide_eq_true (by omega)), ← hy2]
  refine (Qg)<|(gy) ?_
  refine (Av (SVy y2))<|(Qsa 0 32) ?_
  refine zg rfl rfl (Un 148) (zf ze (zZ 1 rfl ⟨[], trivial⟩)) (z3L (G := G ++ [(⟨r2, arr .u8 32 f, 30⟩ : Blk)]) (List.mem_append_left _ hO) y2 hyb _ (ky f) ((y6 _ f _).mono (fun x h => List.mem_append_right _ h)) (xK hf) (by simp)) rfl rfl ?_
  refine z6 (show _ = SVy z by rw [hz3]) ?_
  refine (j7) ?_
  refine yM (c' := shC b l vp v0 v1 vt fi tn dd z ow r vk us) rfl ?_
  refine Qn<|(gd) ?_
  refine z5 (i := 2) (Uz 37) rfl rfl (z3 _ _) (z7 ⟨fun _ => rfl, fun _ => rfl, fun _ => h1.1, fun _ => h1.2.1, fun _ => h1.2.2.1, fun _ => h1.2.2.2.1, fun _ => rfl, fun _ => rfl, fun _ => rfl, fun _ => rfl, fun _ => rfl, fun _ => rfl, fun _ => rfl, fun _ => rfl, fun _ => rfl, fun _ => rfl, fun _ => rfl, fun _ => rfl, fun _ => rfl, fun _ => rfl, fun _ => rfl, fun _ => h1.2.2.2.2, fun _ => rfl, trivial⟩) rfl za (.inl rfl) ?_
  refine Qn<|Qr ?_
  exact ⟨_, rfl, yb 2⟩
 ·obtain rfl : z = y2 := by rw [hz, xk, if_neg (by show ¬ npk ps = true; rw [npk, decide_eq_false (by omega)]; decide), ← hy2]
  refine Qk<|(gd) ?_
  refine z5 (i := 2) (Uz 37) rfl rfl (z3 _ _) (z7 ⟨fun _ => rfl, fun _ => rfl, fun _ => h1.1, fun _ => h1.2.1, fun _ => h1.2.2.1, fun _ => h1.2.2.2.1, fun _ => rfl, fun _ => rfl, fun _ => rfl, fun _ => rfl, fun _ => rfl, fun _ => rfl, fun _ => rfl, fun _ => rfl, fun _ => rfl, fun _ => rfl, fun _ => rfl, fun _ => rfl, fun _ => rfl, fun _ => rfl, fun _ => rfl, fun _ => h1.2.2.2.2, fun _ => rfl, trivial⟩) rfl za (.inl rfl) ?_
  refine Qn<|Qr ?_
  exact ⟨_, rfl, yb 2⟩
theorem zcZ (hO : DOR ∈ G) (b : LN) (l : Bool) (vp v0 v1 vt : Value) (fi : Bool) (tn : Int) (dd : Bool) (y : SY) (r : RS) (ow : NN) (vk : Value) (us : Int) (f : NN) (ps : List (NN)) (hk : Shows G 32 vk ps.length (psC ps)) (h1 : xU vp v0 v1 vt vk) (hy : okY y) (hf : B32 f) : Fp G 70 #[.agg (shC b l vp v0 v1 vt fi tn dd y ow r vk us), .agg (arr .u8 32 f)] (.tuple #[.agg (shC b l vp v0 v1 vt fi tn dd (xk (npk ps) y (zQ f)) ow (f, true, r.2.2) vk us), .agg (arr .u8 32 (zQ f))]) := by
 obtain ⟨z, hz⟩ : ∃ z, z = xk (npk ps) y (zQ f) := ⟨_, rfl⟩
 rw [← hz]
 refine Qf2 Tryz.func70 ?_
 refine (g4)<|(Qh 0) fun r1=>(Qh 1) fun r2=>(QH 2) fun r3=>(QH 3) fun r4=>(gj)<|(Qd 1)<|(Qf 139)<|(QtC 0 15)<|(Qf 171)<|(QtV 0 16) ?_
 refine yM (c' := shC b l vp v0 v1 vt fi tn dd y ow (f, true, r.2.2) vk us) rfl ?_
 refine (gj)<|(Qd 1) ?_
 refine (Ca (z0K f hf)) ?_
 refine (Av (Value.agg (arr .u8 32 (zQ f))))<|(QH 4) fun r5=>(Qt 4)<|Qn<|Qs<|(Qq ⟨[r3, r4], 1, [], none, none⟩) ?_
 refine zF (i := 0) (Uu 37) rfl (Uz 37) rfl rfl (z3 _ _) rfl ⟨[2, 3], rfl, rfl, rfl, rfl, trivial⟩ ?_
 refine zF (i := 4) (Uu 30) rfl (Uz 30) rfl rfl (z9 _ _ _) rfl ⟨[2, 3], rfl, rfl, rfl, rfl, trivial⟩ ?_
 refine (Ca (zdL hO b l vp v0 v1 vt fi tn dd y (f, true, r.2.2) ow vk us (zQ f) ps hk h1 hy (xr f))) ?_
 refine z6 (show _ = Value.agg (shC b l vp v0 v1 vt fi tn dd z ow (f, true, r.2.2) vk us) by rw [hz]) ?_
 refine zF (i := 4) (Uu 30) rfl (Uz 30) rfl rfl (z9 _ _ _) rfl ⟨[2, 3], rfl, rfl, rfl, rfl, trivial⟩ ?_
 refine z5 (i := 2) (Uz 37) rfl rfl (z3 _ _) (z7 ⟨fun _ => rfl, fun _ => rfl, fun _ => h1.1, fun _ => h1.2.1, fun _ => h1.2.2.1, fun _ => h1.2.2.2.1, fun _ => rfl, fun _ => rfl, fun _ => rfl, fun _ => rfl, fun _ => rfl, fun _ => rfl, fun _ => rfl, fun _ => rfl, fun _ => rfl, fun _ => rfl, fun _ => rfl, fun _ => rfl, fun _ => rfl, fun _ => rfl, fun _ => rfl, fun _ => h1.2.2.2.2, fun _ => rfl, trivial⟩) rfl za (.inr (by simp)) ?_
 refine z5 (i := 3) (Uz 30) rfl rfl (z9 _ _ _) zU rfl (ye _ _ _ _ _) (.inr (by simp)) ?_
 refine Qn<|Qr ?_
 exact ⟨_, _, rfl, yb 2, ya 3⟩
theorem zfd {G : Mem} (hO : DOR ∈ G) (y : SY) (hy : okY y) (v : Value) (l : LN) (hv : Sh G v l) (hb : By l) (hz : l.length ≤ 1000000) : Fp G 166 #[SVy y, v] (SVy (z4L y l)) := by
 have h := (zap (G := G) y.1 y.2.1 y.2.2.1 y.2.2.2.1 y.2.2.2.2 v l (hv.mono fun _ h => List.mem_cons_of_mem _ h) hb hy.2.2.1 hy.2.2.2 (by omega)).more (in1 hO)
 unfold z4L
 generalize hx y.2.2.2.2 (ky (kB y.2.2.2.1 l)) = fh at h ⊢
 generalize kC y.2.2.2.1 l = fc at h ⊢
 generalize kA y.2.2.2.1 l = fa at h ⊢
 exact h
theorem z8c (t : Nat) : Fp G 167 #[ii t] (.tuple #[ii (WN t), ii (WH t)]) := by
 refine Qf2 Tryz.func167 ?_
 refine (g4)<|(ja)<|Qn<|Qb<|(g4)<|(Qc)<|(g3) ?_
 refine zi rfl ?_ ?_
 ·intro hc0
  obtain rfl : t = 3 := by have := of_decide_eq_true hc0; omega
  refine (g4)<|(h8) ?_
  first | (rw [show WN t = 2 by unfold WN; rw [if_neg hn0, if_neg hn1], show WH t = 2 by unfold WH; rw [if_neg hn0, if_neg hn1, if_neg hn2]]) | skip
  exact ⟨_, _, rfl, yt, yt⟩
 ·intro hc0
  have hn0 : ¬ t = 3 := by have := of_decide_eq_false hc0; omega
  refine (g4)<|(Qc)<|(g3) ?_
  refine zi rfl ?_ ?_
  ·intro hc1
   obtain rfl : t = 4 := by have := of_decide_eq_true hc1; omega
   refine (g4)<|(h8) ?_
   first | (rw [show WN t = 2 by unfold WN; rw [if_neg hn0, if_neg hn1], show WH t = 2 by unfold WH; rw [if_neg hn0, if_neg hn1, if_neg hn2]]) | skip
   exact ⟨_, _, rfl, yt, yt⟩
  ·intro hc1
   have hn1 : ¬ t = 4 := by have := of_decide_eq_false hc1; omega
   refine (g4)<|(Qc)<|(g3) ?_
   refine zi rfl ?_ ?_
   ·intro hc2
    obtain rfl : t = 5 := by have := of_decide_eq_true hc2; omega
    refine (g4)<|(h8) ?_
    first | (rw [show WN t = 2 by unfold WN; rw [if_neg hn0, if_neg hn1], show WH t = 2 by unfold WH; rw [if_neg hn0, if_neg hn1, if_neg hn2]]) | skip
    exact ⟨_, _, rfl, yt, yt⟩
   ·intro hc2
    have hn2 : ¬ t = 5 := by have := of_decide_eq_false hc2; omega
    refine Qk<|(g4)<|(h8) ?_
    first | (rw [show WN t = 2 by unfold WN; rw [if_neg hn0, if_neg hn1], show WH t = 2 by unfold WH; rw [if_neg hn0, if_neg hn1, if_neg hn2]]) | skip
    exact ⟨_, _, rfl, yt, yt⟩
theorem Vh (b : LN) (l : Bool) (vp v0 v1 vt : Value) (fi : Bool) (tn : Int) (dd : Bool) (y : SY) (r : RS) (ow : NN) (vk : Value) (us : Int) (x : Nat) : Fp G 168 #[.agg (shC b l vp v0 v1 vt fi tn dd y ow r vk us), ii x] (.tuple #[.agg (arr .u8 32 (if x = 1 then r.1 else ow)), .bool (if x = 1 then r.2.1 else true)]) := by
 refine Qf2 Tryz.func168 ?_
 refine (g4)<|(Qh 0) fun r1=>(QH 1) fun r2=>(g3)<|(ge)<|(Qc)<|Qn ?_
 refine zi rfl ?_ ?_
 ·intro hc0
  have hx : x = 1 := by have := of_decide_eq_true hc0; omega
  rw [if_pos hx, if_pos hx]
  refine Qs<|(Qq ⟨[r2], 1, [], none, none⟩)<|(Qf 139) ?_
  refine YQ (i := 0) 15 (Uu 30) rfl (Uz 30) rfl rfl rfl (by decide) rfl ⟨[1], rfl, rfl, trivial⟩ ?_
  refine (Qf 171) ?_
  refine Zd (i := 0) 16 (Uu 4) rfl rfl rfl rfl (by decide) rfl ⟨[1], rfl, rfl, trivial⟩ ?_
  refine z5 (i := 1) (Uz 30) rfl rfl (z9 _ _ _) zU rfl (ye _ _ _ _ _) (.inr (by simp)) ?_
  refine (gt) ?_
  exact ⟨_, _, rfl, ya 1, yt⟩
 ·intro hc0
  have hx : ¬ x = 1 := by have := of_decide_eq_false hc0; omega
  rw [if_neg hx, if_neg hx]
  refine Qk<|(g4)<|(Qf 107)<|(Qv 14 0)<|(Qt 1)<|(gt) ?_
  exact ⟨_, _, rfl, ya 1, yt⟩
theorem Vb (b : LN) (l : Bool) (vp v0 v1 vt : Value) (fi : Bool) (tn : Int) (dd : Bool) (y : SY) (r : RS) (ow : NN) (vk : Value) (us : Int) (x : Nat) : Fp G 169 #[.agg (shC b l vp v0 v1 vt fi tn dd y ow r vk us), ii x] (.tuple #[.agg (arr .u8 32 (if x = 1 then r.2.2.2.2.1 else r.2.2.1)), .bool (if x = 1 then r.2.2.2.2.2 else r.2.2.2.1)]) := by
 refine Qf2 Tryz.func169 ?_
 refine (g4)<|(Qh 0) fun r1=>(QH 1) fun r2=>(g3)<|(ge)<|(Qc)<|Qn ?_
 refine zi rfl ?_ ?_
 ·intro hc0
  have hx : x = 1 := by have := of_decide_eq_true hc0; omega
  rw [if_pos hx, if_pos hx]
  refine Qs<|(Qq ⟨[r2], 1, [], none, none⟩)<|(Qf 205) ?_
  refine YQ (i := 0) 19 (Uu 30) rfl (Uz 30) rfl rfl rfl (by decide) rfl ⟨[1], rfl, rfl, trivial⟩ ?_
  refine (Qf 237) ?_
  refine Zd (i := 0) 20 (Uu 4) rfl rfl rfl rfl (by decide) rfl ⟨[1], rfl, rfl, trivial⟩ ?_
  refine z5 (i := 1) (Uz 30) rfl rfl (z9 _ _ _) zU rfl (ye _ _ _ _ _) (.inr (by simp)) ?_
  refine (gt) ?_
  exact ⟨_, _, rfl, ya 1, yt⟩
 ·intro hc0
  have hx : ¬ x = 1 := by have := of_decide_eq_false hc0; omega
  rw [if_neg hx, if_neg hx]
  refine Qk<|Qs<|(Qq ⟨[r2], 1, [], none, none⟩)<|(Qf 172) ?_
  refine YQ (i := 0) 17 (Uu 30) rfl (Uz 30) rfl rfl rfl (by decide) rfl ⟨[1], rfl, rfl, trivial⟩ ?_
  refine (Qf 204) ?_
  refine Zd (i := 0) 18 (Uu 4) rfl rfl rfl rfl (by decide) rfl ⟨[1], rfl, rfl, trivial⟩ ?_
  refine z5 (i := 1) (Uz 30) rfl rfl (z9 _ _ _) zU rfl (ye _ _ _ _ _) (.inr (by simp)) ?_
  refine (gt) ?_
  exact ⟨_, _, rfl, ya 1, yt⟩
theorem zb6 (hO : DOR ∈ G) (b : LN) (l : Bool) (vp v0 v1 vt : Value) (fi : Bool) (tn : Int) (dd : Bool) (y : SY) (r : RS) (ow : NN) (vk : Value) (us : Nat) (ps : List (NN)) (hk : Shows G 32 vk ps.length (psC ps)) (hp : okP ps) (h1 : xU vp v0 v1 vt vk) (hy : okY y) (hr : okR r) (ho : B32 ow) (w : Nat × SS) (hw : xL fi ow ps 7 (y, r, us) = w) : Fp G 130 #[.agg (shC b l vp v0 v1 vt fi tn dd y ow r vk ((us : Nat) : Int))] (.tuple #[.agg (shC b l vp v0 v1 vt fi tn dd w.2.1 ow w.2.2.1 vk ((w.2.2.2 : Nat) : Int)), ii w.1]) := by
 have hpl := hp.2
 have _u1 := hr
 have _u2 := ho
 refine Qf2 Tryz.func130 ?_
 refine (g4)<|(Qh 0) fun r1=>(QH 1) fun r2=>(g3)<|(gs)<|(Qf 239)<|(QV 22 0)<|(Qf 238)<|(QV 21 0)<|(QC hk)<|(QE)<|Qn ?_
 refine (Qcd) (fun hc0=>?_) fun hc0=>?_
 ·obtain rfl : w = (5, (y, r, us)) := by rw [← hw]; exact Vg (by omega)
  refine (gd) ?_
  refine z5 (i := 1) (Uz 37) rfl rfl (z3 _ _) (z7 ⟨fun _ => rfl, fun _ => rfl, fun _ => h1.1, fun _ => h1.2.1, fun _ => h1.2.2.1, fun _ => h1.2.2.2.1, fun _ => rfl, fun _ => rfl, fun _ => rfl, fun _ => rfl, fun _ => rfl, fun _ => rfl, fun _ => rfl, fun _ => rfl, fun _ => rfl, fun _ => rfl, fun _ => rfl, fun _ => rfl, fun _ => rfl, fun _ => rfl, fun _ => rfl, fun _ => h1.2.2.2.2, fun _ => rfl, trivial⟩) rfl za (.inl rfl) ?_
  refine (gt) ?_
  exact ⟨_, _, rfl, yb 1, yt⟩
 ·obtain ⟨y2, hy2⟩ : ∃ y2, y2 = z4L y (ky (Zt ps us)) := ⟨_, rfl⟩
  obtain rfl : w = (0, y2, r, us + 1) := by rw [← hw, hy2]; exact z5V (by omega)
  refine Qk<|(g4)<|(Qf 238)<|(QV 21 0)<|(Qf 239)<|(QV 22 0) ?_
  refine yf hk (Uu 24) (Uz 30) rfl rfl (by omega) rfl ?_
  refine Yk hk ze (Uu 30) rfl (Uz 30) rfl (by decide) (by rw [xc vI]; omega) (z2X (by omega)) rfl ?_
  refine z6 (congrArg Value.agg (W2 _)) ?_
  refine (QH 2) fun r3=>(Qt 2)<|(jf)<|(gy) ?_
  refine (Av (SVy y))<|(Qsa 0 32) ?_
  refine zg rfl rfl (Un 166) (zf ze (zZ 2 rfl ⟨[], trivial⟩)) (zfd (G := G ++ [(⟨r3, arr .u8 32 (Zt ps us), 30⟩ : Blk)]) (List.mem_append_left _ hO) y hy _ (ky (Zt ps us)) ((y6 _ (Zt ps us) _).mono (fun x h => List.mem_append_right _ h)) (xK (z4z hp (by omega))) (by simp)) rfl rfl ?_
  refine z6 (congrArg SVy hy2.symm) ?_
  refine (j7) ?_
  refine yM (c' := shC b l vp v0 v1 vt fi tn dd y2 ow r vk ((us : Nat) : Int)) rfl ?_
  refine (gj)<|(Qf 239)<|(QV 22 0)<|(Q2 1)<|(Qf 239)<|(QtV 0 22) ?_
  refine yM (c' := shC b l vp v0 v1 vt fi tn dd y2 ow r vk ((us + 1 : Nat) : Int)) rfl ?_
  refine Qn<|(gd) ?_
  refine z5 (i := 1) (Uz 37) rfl rfl (z3 _ _) (z7 ⟨fun _ => rfl, fun _ => rfl, fun _ => h1.1, fun _ => h1.2.1, fun _ => h1.2.2.1, fun _ => h1.2.2.2.1, fun _ => rfl, fun _ => rfl, fun _ => rfl, fun _ => rfl, fun _ => rfl, fun _ => rfl, fun _ => rfl, fun _ => rfl, fun _ => rfl, fun _ => rfl, fun _ => rfl, fun _ => rfl, fun _ => rfl, fun _ => rfl, fun _ => rfl, fun _ => h1.2.2.2.2, fun _ => rfl, trivial⟩) rfl za (.inl rfl) ?_
  refine (gt) ?_
  exact ⟨_, _, rfl, yb 1, yt⟩
theorem z3E (hO : DOR ∈ G) (b : LN) (l : Bool) (vp v0 v1 vt : Value) (tn : Int) (dd : Bool) (y : SY) (r : RS) (ow : NN) (vk : Value) (us : Nat) (ps : List (NN)) (hk : Shows G 32 vk ps.length (psC ps)) (hp : okP ps) (h1 : xU vp v0 v1 vt vk) (hy : okY y) (hr : okR r) (ho : B32 ow) (t : Nat) (h3 : 3 ≤ t) (h6 : t ≤ 6) (w : Nat × SS) (hw : xL true ow ps t (y, r, us) = w) : Fp G 131 #[.agg (shC b l vp v0 v1 vt true tn dd y ow r vk ((us : Nat) : Int)), ii t] (.tuple #[.agg (shC b l vp v0 v1 vt true tn dd w.2.1 ow w.2.2.1 vk ((w.2.2.2 : Nat) : Int)), ii w.1]) := by
 have _u1 := hk
 have _u2 := hp
 obtain ⟨fs, hfs⟩ : ∃ z, z = ZY true ow r t := ⟨_, rfl⟩
 obtain ⟨fp, hfp⟩ : ∃ z, z = Za true r t := ⟨_, rfl⟩
 obtain ⟨bs, hbs⟩ : ∃ z, z = Xc true r t := ⟨_, rfl⟩
 obtain ⟨bw, hbw⟩ : ∃ z, z = ZV true r t := ⟨_, rfl⟩
 have hls : B32 fs := by rw [hfs]; exact z3t ho hr
 have hlp : B32 fp := by rw [hfp]; exact z2R hr
 obtain ⟨mk, hmk⟩ : ∃ z, z = z5g fs fp := ⟨_, rfl⟩
 have h7 : t ≠ 7 := by omega
 have hN : (bs && bw) = false → w = (5, (y, r, us)) := fun h => by rw [← hw]; exact Wu h7 (by rw [← hbs, ← hbw]; exact h)
 have hZ : ¬ (bs && bw) = false → mk = 0 → w = (12, (y, r, us)) := fun h hz => by rw [← hw]; exact Ww h7 (by rw [← hbs, ← hbw]; exact h) (by rw [← hfs, ← hfp, ← hmk]; exact hz)
 have hK : ¬ (bs && bw) = false → ¬ mk = 0 → w = (0, X6 y (ky (bt mk)), r, us) := fun h hz => by rw [← hw]; exact (z2Z h7 (by rw [← hbs, ← hbw]; exact h) (by rw [← hfs, ← hfp, ← hmk]; exact hz)).trans (by rw [← hfs, ← hfp, ← hmk])
 refine Qf2 Tryz.func131 ?_
 refine (g4)<|(Qh 0) fun r1=>(QH 1) fun r2=>(gm) ?_
 refine (Ca (z8c t))<|(gi)<|(g8)<|(gs)<|(Qf 6)<|(QV 6 0)<|(Q0)<|(go)<|(gd)<|(Qm) ?_
 refine (Ca (Vh b l vp v0 v1 vt true tn dd y r ow vk us (WN t))) ?_
 refine z6 (show _ = Value.tuple #[.agg (arr .u8 32 fs), .bool bs] by rw [hfs, hbs, ← zdw (fi := true) h3 h6, ← zeT (fi := true) h3 h6]; rfl) ?_
 refine (gi)<|(QH 2) fun r3=>(Qt 2)<|(g3)<|(gd)<|(Qm) ?_
 refine (Ca (Vb b l vp v0 v1 vt true tn dd y r ow vk us (WH t))) ?_
 refine z6 (show _ = Value.tuple #[.agg (arr .u8 32 fp), .bool bw] by rw [hfp, hbw, ← zcX (fi := true) h3 h6, ← ze3 (fi := true) h3 h6]; rfl) ?_
 refine (gi)<|(QH 3) fun r4=>(Qt 3)<|(g3)<|(gs) ?_
 refine yd [(0, _), (1, _), (2, _), (4, _), (5, _), (6, _), (7, _), (8, _), (9, _), (10, _), (11, _), (14, _), (15, _), (16, _), (17, _), (18, _), (19, _), (20, _), (21, _), (24, _), (25, _), (26, _), (27, _), (28, _), (29, _), (30, _), (31, _), (32, _), (33, _), (34, _), (35, _)] [(41, .bool (!(bs && bw)))] [(0, some _), (1, some _), (2, some _), (3, some _)] ⟨rfl, rfl, rfl, rfl, rfl, rfl, rfl, rfl, rfl, rfl, rfl, rfl, rfl, rfl, rfl, rfl, rfl, rfl, rfl, rfl, rfl, rfl, rfl, rfl, rfl, rfl, rfl, rfl, rfl, rfl, rfl, trivial⟩ ⟨rfl, rfl, rfl, rfl, trivial⟩ ?_ ?_
 ·skip
  refine (Qm)<|(Q0)<|(Qm) ?_
  refine zo (b := (!bs)) (fun hb0 => ?_) (fun hb0 => ?_)
  ·skip
   refine (g5)<|(QT)<|Qn ?_
   exact ⟨⟨rfl, rfl, rfl, rfl, rfl, rfl, rfl, rfl, rfl, rfl, rfl, rfl, rfl, rfl, rfl, rfl, rfl, rfl, rfl, rfl, rfl, rfl, rfl, rfl, rfl, rfl, rfl, rfl, rfl, rfl, rfl, trivial⟩, ⟨z4 (by rw [Bool.not_and, hb0] <;> rfl), trivial⟩, ⟨rfl, rfl, rfl, rfl, trivial⟩⟩
  ·skip
   refine (Qy)<|(g7)<|(Q0)<|(QF)<|Qn ?_
   exact ⟨⟨rfl, rfl, rfl, rfl, rfl, rfl, rfl, rfl, rfl, rfl, rfl, rfl, rfl, rfl, rfl, rfl, rfl, rfl, rfl, rfl, rfl, rfl, rfl, rfl, rfl, rfl, rfl, rfl, rfl, rfl, rfl, trivial⟩, ⟨z4 (by rw [Bool.not_and, hb0] <;> rfl), trivial⟩, ⟨rfl, rfl, rfl, rfl, trivial⟩⟩
 ·simp only [zq]
  refine zi rfl ?_ ?_
  ·intro hc1
   have hn1 : (bs && bw) = false := zi9 hc1
   obtain rfl := hN hn1
   refine (gd) ?_
   refine z5 (i := 1) (Uz 37) rfl rfl (z3 _ _) (z7 ⟨fun _ => rfl, fun _ => rfl, fun _ => h1.1, fun _ => h1.2.1, fun _ => h1.2.2.1, fun _ => h1.2.2.2.1, fun _ => rfl, fun _ => rfl, fun _ => rfl, fun _ => rfl, fun _ => rfl, fun _ => rfl, fun _ => rfl, fun _ => rfl, fun _ => rfl, fun _ => rfl, fun _ => rfl, fun _ => rfl, fun _ => rfl, fun _ => rfl, fun _ => rfl, fun _ => h1.2.2.2.2, fun _ => rfl, trivial⟩) rfl za (.inl rfl) ?_
   refine (gt) ?_
   exact ⟨_, _, rfl, yb 1, yt⟩
  ·intro hc1
   have hn1 : ¬ (bs && bw) = false := zii hc1
   refine Qk<|(g4)<|(Qd 2)<|(Qd 3) ?_
   refine (Ca (z02 fs fp hls hlp)) ?_
   refine z6 (show _ = Value.tuple #[Value.agg (arr .u8 32 (bt mk)), .bool (!decide (mk = 0))] by rw [hmk]; rfl) ?_
   refine (gi)<|(QH 4) fun r5=>(Qt 4)<|(g3)<|(ge)<|(Q0)<|Qn ?_
   refine zi rfl ?_ ?_
   ·intro hc2
    have hz1 : mk = 0 := by simpa using hc2
    obtain rfl := hZ hn1 hz1
    refine (gd) ?_
    refine z5 (i := 1) (Uz 37) rfl rfl (z3 _ _) (z7 ⟨fun _ => rfl, fun _ => rfl, fun _ => h1.1, fun _ => h1.2.1, fun _ => h1.2.2.1, fun _ => h1.2.2.2.1, fun _ => rfl, fun _ => rfl, fun _ => rfl, fun _ => rfl, fun _ => rfl, fun _ => rfl, fun _ => rfl, fun _ => rfl, fun _ => rfl, fun _ => rfl, fun _ => rfl, fun _ => rfl, fun _ => rfl, fun _ => rfl, fun _ => rfl, fun _ => h1.2.2.2.2, fun _ => rfl, trivial⟩) rfl za (.inl rfl) ?_
    refine (gt) ?_
    exact ⟨_, _, rfl, yb 1, yt⟩
   ·intro hc2
    have hz1 : ¬ mk = 0 := by simpa using hc2
    obtain ⟨y2, hy2⟩ : ∃ y2, y2 = X6 y (ky (bt mk)) := ⟨_, rfl⟩
    obtain rfl : w = (0, y2, r, us) := by rw [hy2]; exact hK hn1 hz1
    refine Qk<|(gr)<|(gy) ?_
    refine (Av (SVy y))<|(Qsa 0 32) ?_
    refine zg rfl rfl (Un 148) (zf ze (zZ 4 rfl ⟨[], trivial⟩)) (z3L (G := G ++ [(⟨r5, arr .u8 32 (bt mk), 30⟩ : Blk)]) (List.mem_append_left _ hO) y hy _ (ky (bt mk)) ((y6 _ (bt mk) _).mono (fun x h => List.mem_append_right _ h)) (xK (zjv mk)) (by simp)) rfl rfl ?_
    refine z6 (congrArg SVy hy2.symm) ?_
    refine (j7) ?_
    refine yM (c' := shC b l vp v0 v1 vt true tn dd y2 ow r vk ((us : Nat) : Int)) rfl ?_
    refine Qn<|(gd) ?_
    refine z5 (i := 1) (Uz 37) rfl rfl (z3 _ _) (z7 ⟨fun _ => rfl, fun _ => rfl, fun _ => h1.1, fun _ => h1.2.1, fun _ => h1.2.2.1, fun _ => h1.2.2.2.1, fun _ => rfl, fun _ => rfl, fun _ => rfl, fun _ => rfl, fun _ => rfl, fun _ => rfl, fun _ => rfl, fun _ => rfl, fun _ => rfl, fun _ => rfl, fun _ => rfl, fun _ => rfl, fun _ => rfl, fun _ => rfl, fun _ => rfl, fun _ => h1.2.2.2.2, fun _ => rfl, trivial⟩) rfl za (.inl rfl) ?_
    refine (gt) ?_
    exact ⟨_, _, rfl, yb 1, yt⟩
theorem z1s (hO : DOR ∈ G) (b : LN) (l : Bool) (vp v0 v1 vt : Value) (tn : Int) (dd : Bool) (y : SY) (r : RS) (ow : NN) (vk : Value) (us : Nat) (ps : List (NN)) (hk : Shows G 32 vk ps.length (psC ps)) (hp : okP ps) (h1 : xU vp v0 v1 vt vk) (hy : okY y) (hr : okR r) (ho : B32 ow) (t : Nat) (h3 : 3 ≤ t) (h6 : t ≤ 6) (w : Nat × SS) (hw : xL false ow ps t (y, r, us) = w) : Fp G 131 #[.agg (shC b l vp v0 v1 vt false tn dd y ow r vk ((us : Nat) : Int)), ii t] (.tuple #[.agg (shC b l vp v0 v1 vt false tn dd w.2.1 ow w.2.2.1 vk ((w.2.2.2 : Nat) : Int)), ii w.1]) := by
 have _u1 := hk
 have _u2 := hp
 obtain ⟨fs, hfs⟩ : ∃ z, z = ZY false ow r t := ⟨_, rfl⟩
 obtain ⟨fp, hfp⟩ : ∃ z, z = Za false r t := ⟨_, rfl⟩
 obtain ⟨bs, hbs⟩ : ∃ z, z = Xc false r t := ⟨_, rfl⟩
 obtain ⟨bw, hbw⟩ : ∃ z, z = ZV false r t := ⟨_, rfl⟩
 have hls : B32 fs := by rw [hfs]; exact z3t ho hr
 have hlp : B32 fp := by rw [hfp]; exact z2R hr
 obtain ⟨mk, hmk⟩ : ∃ z, z = z5g fs fp := ⟨_, rfl⟩
 have h7 : t ≠ 7 := by omega
 have hN : (bs && bw) = false → w = (5, (y, r, us)) := fun h => by rw [← hw]; exact Wu h7 (by rw [← hbs, ← hbw]; exact h)
 have hZ : ¬ (bs && bw) = false → mk = 0 → w = (12, (y, r, us)) := fun h hz => by rw [← hw]; exact Ww h7 (by rw [← hbs, ← hbw]; exact h) (by rw [← hfs, ← hfp, ← hmk]; exact hz)
 have hK : ¬ (bs && bw) = false → ¬ mk = 0 → w = (0, X6 y (ky (bt mk)), r, us) := fun h hz => by rw [← hw]; exact (z2Z h7 (by rw [← hbs, ← hbw]; exact h) (by rw [← hfs, ← hfp, ← hmk]; exact hz)).trans (by rw [← hfs, ← hfp, ← hmk])
 refine Qf2 Tryz.func131 ?_
 refine (g4)<|(Qh 0) fun r1=>(QH 1) fun r2=>(gm) ?_
 refine (Ca (z8c t))<|(gi)<|(g8)<|(gs)<|(Qf 6)<|(QV 6 0)<|(Q0)<|(gv)<|Qp<|(gb)<|(g8)<|(gd)<|(Qm) ?_
 refine (Ca (Vh b l vp v0 v1 vt false tn dd y r ow vk us (WH t))) ?_
 refine z6 (show _ = Value.tuple #[.agg (arr .u8 32 fs), .bool bs] by rw [hfs, hbs, ← zdw (fi := false) h3 h6, ← zeT (fi := false) h3 h6]; rfl) ?_
 refine (gi)<|(QH 2) fun r3=>(Qt 2)<|(g3)<|(gd)<|(Qm) ?_
 refine (Ca (Vb b l vp v0 v1 vt false tn dd y r ow vk us (WN t))) ?_
 refine z6 (show _ = Value.tuple #[.agg (arr .u8 32 fp), .bool bw] by rw [hfp, hbw, ← zcX (fi := false) h3 h6, ← ze3 (fi := false) h3 h6]; rfl) ?_
 refine (gi)<|(QH 3) fun r4=>(Qt 3)<|(g3)<|(gs) ?_
 refine yd [(0, _), (1, _), (2, _), (4, _), (5, _), (6, _), (7, _), (8, _), (9, _), (10, _), (11, _), (14, _), (15, _), (16, _), (17, _), (18, _), (19, _), (20, _), (21, _), (22, _), (23, _), (24, _), (25, _), (26, _), (27, _), (28, _), (29, _), (30, _), (31, _), (32, _), (33, _), (34, _), (35, _)] [(41, .bool (!(bs && bw)))] [(0, some _), (1, some _), (2, some _), (3, some _)] ⟨rfl, rfl, rfl, rfl, rfl, rfl, rfl, rfl, rfl, rfl, rfl, rfl, rfl, rfl, rfl, rfl, rfl, rfl, rfl, rfl, rfl, rfl, rfl, rfl, rfl, rfl, rfl, rfl, rfl, rfl, rfl, rfl, rfl, trivial⟩ ⟨rfl, rfl, rfl, rfl, trivial⟩ ?_ ?_
 ·skip
  refine (Qm)<|(Q0)<|(Qm) ?_
  refine zo (b := (!bs)) (fun hb0 => ?_) (fun hb0 => ?_)
  ·skip
   refine (g5)<|(QT)<|Qn ?_
   exact ⟨⟨rfl, rfl, rfl, rfl, rfl, rfl, rfl, rfl, rfl, rfl, rfl, rfl, rfl, rfl, rfl, rfl, rfl, rfl, rfl, rfl, rfl, rfl, rfl, rfl, rfl, rfl, rfl, rfl, rfl, rfl, rfl, rfl, rfl, trivial⟩, ⟨z4 (by rw [Bool.not_and, hb0] <;> rfl), trivial⟩, ⟨rfl, rfl, rfl, rfl, trivial⟩⟩
  ·skip
   refine (Qy)<|(g7)<|(Q0)<|(QF)<|Qn ?_
   exact ⟨⟨rfl, rfl, rfl, rfl, rfl, rfl, rfl, rfl, rfl, rfl, rfl, rfl, rfl, rfl, rfl, rfl, rfl, rfl, rfl, rfl, rfl, rfl, rfl, rfl, rfl, rfl, rfl, rfl, rfl, rfl, rfl, rfl, rfl, trivial⟩, ⟨z4 (by rw [Bool.not_and, hb0] <;> rfl), trivial⟩, ⟨rfl, rfl, rfl, rfl, trivial⟩⟩
 ·simp only [zq]
  refine zi rfl ?_ ?_
  ·intro hc1
   have hn1 : (bs && bw) = false := zi9 hc1
   obtain rfl := hN hn1
   refine (gd) ?_
   refine z5 (i := 1) (Uz 37) rfl rfl (z3 _ _) (z7 ⟨fun _ => rfl, fun _ => rfl, fun _ => h1.1, fun _ => h1.2.1, fun _ => h1.2.2.1, fun _ => h1.2.2.2.1, fun _ => rfl, fun _ => rfl, fun _ => rfl, fun _ => rfl, fun _ => rfl, fun _ => rfl, fun _ => rfl, fun _ => rfl, fun _ => rfl, fun _ => rfl, fun _ => rfl, fun _ => rfl, fun _ => rfl, fun _ => rfl, fun _ => rfl, fun _ => h1.2.2.2.2, fun _ => rfl, trivial⟩) rfl za (.inl rfl) ?_
   refine (gt) ?_
   exact ⟨_, _, rfl, yb 1, yt⟩
  ·intro hc1
   have hn1 : ¬ (bs && bw) = false := zii hc1
   refine Qk<|(g4)<|(Qd 2)<|(Qd 3) ?_
   refine (Ca (z02 fs fp hls hlp)) ?_
   refine z6 (show _ = Value.tuple #[Value.agg (arr .u8 32 (bt mk)), .bool (!decide (mk = 0))] by rw [hmk]; rfl) ?_
   refine (gi)<|(QH 4) fun r5=>(Qt 4)<|(g3)<|(ge)<|(Q0)<|Qn ?_
   refine zi rfl ?_ ?_
   ·intro hc2
    have hz1 : mk = 0 := by simpa using hc2
    obtain rfl := hZ hn1 hz1
    refine (gd) ?_
    refine z5 (i := 1) (Uz 37) rfl rfl (z3 _ _) (z7 ⟨fun _ => rfl, fun _ => rfl, fun _ => h1.1, fun _ => h1.2.1, fun _ => h1.2.2.1, fun _ => h1.2.2.2.1, fun _ => rfl, fun _ => rfl, fun _ => rfl, fun _ => rfl, fun _ => rfl, fun _ => rfl, fun _ => rfl, fun _ => rfl, fun _ => rfl, fun _ => rfl, fun _ => rfl, fun _ => rfl, fun _ => rfl, fun _ => rfl, fun _ => rfl, fun _ => h1.2.2.2.2, fun _ => rfl, trivial⟩) rfl za (.inl rfl) ?_
    refine (gt) ?_
    exact ⟨_, _, rfl, yb 1, yt⟩
   ·intro hc2
    have hz1 : ¬ mk = 0 := by simpa using hc2
    obtain ⟨y2, hy2⟩ : ∃ y2, y2 = X6 y (ky (bt mk)) := ⟨_, rfl⟩
    obtain rfl : w = (0, y2, r, us) := by rw [hy2]; exact hK hn1 hz1
    refine Qk<|(gr)<|(gy) ?_
    refine (Av (SVy y))<|(Qsa 0 32) ?_
    refine zg rfl rfl (Un 148) (zf ze (zZ 4 rfl ⟨[], trivial⟩)) (z3L (G := G ++ [(⟨r5, arr .u8 32 (bt mk), 30⟩ : Blk)]) (List.mem_append_left _ hO) y hy _ (ky (bt mk)) ((y6 _ (bt mk) _).mono (fun x h => List.mem_append_right _ h)) (xK (zjv mk)) (by simp)) rfl rfl ?_
    refine z6 (congrArg SVy hy2.symm) ?_
    refine (j7) ?_
    refine yM (c' := shC b l vp v0 v1 vt false tn dd y2 ow r vk ((us : Nat) : Int)) rfl ?_
    refine Qn<|(gd) ?_
    refine z5 (i := 1) (Uz 37) rfl rfl (z3 _ _) (z7 ⟨fun _ => rfl, fun _ => rfl, fun _ => h1.1, fun _ => h1.2.1, fun _ => h1.2.2.1, fun _ => h1.2.2.2.1, fun _ => rfl, fun _ => rfl, fun _ => rfl, fun _ => rfl, fun _ => rfl, fun _ => rfl, fun _ => rfl, fun _ => rfl, fun _ => rfl, fun _ => rfl, fun _ => rfl, fun _ => rfl, fun _ => rfl, fun _ => rfl, fun _ => rfl, fun _ => h1.2.2.2.2, fun _ => rfl, trivial⟩) rfl za (.inl rfl) ?_
    refine (gt) ?_
    exact ⟨_, _, rfl, yb 1, yt⟩
theorem z70 {G : Mem} (hO : DOR ∈ G) (b : LN) (l : Bool) (vp v0 v1 vt : Value) (fi : Bool) (tn : Int) (dd : Bool) (y : SY) (r : RS) (ow : NN) (vk : Value) (us : Nat) (ps : List (NN)) (hk : Shows G 32 vk ps.length (psC ps)) (hp : okP ps) (h1 : xU vp v0 v1 vt vk) (hy : okY y) (hr : okR r) (ho : B32 ow) (t : Nat) (h3 : 3 ≤ t) (h6 : t ≤ 6) (w : Nat × SS) (hw : xL fi ow ps t (y, r, us) = w) : Fp G 131 #[.agg (shC b l vp v0 v1 vt fi tn dd y ow r vk ((us : Nat) : Int)), ii t] (.tuple #[.agg (shC b l vp v0 v1 vt fi tn dd w.2.1 ow w.2.2.1 vk ((w.2.2.2 : Nat) : Int)), ii w.1]) := by
 cases fi with
 | true => exact z3E hO b l vp v0 v1 vt tn dd y r ow vk us ps hk hp h1 hy hr ho t h3 h6 w hw
 | false => exact z1s hO b l vp v0 v1 vt tn dd y r ow vk us ps hk hp h1 hy hr ho t h3 h6 w hw
theorem zhj (hO : DOR ∈ G) (b : LN) (l : Bool) (vp v0 v1 vt : Value) (fi : Bool) (tn : Int) (dd : Bool) (y : SY) (r : RS) (ow : NN) (vk : Value) (us : Nat) (ps : List (NN)) (hk : Shows G 32 vk ps.length (psC ps)) (hp : okP ps) (h1 : xU vp v0 v1 vt vk) (hy : okY y) (hr : okR r) (ho : B32 ow) (t : Nat) (h3 : 3 ≤ t) (h7 : t ≤ 7) (w : Nat × SS) (hw : xL fi ow ps t (y, r, us) = w) : Fp G 91 #[.agg (shC b l vp v0 v1 vt fi tn dd y ow r vk ((us : Nat) : Int)), ii t] (.tuple #[.agg (shC b l vp v0 v1 vt fi tn dd w.2.1 ow w.2.2.1 vk ((w.2.2.2 : Nat) : Int)), ii w.1]) := by
 refine Qf2 Tryz.func91 ?_
 refine (g4)<|(Qh 0) fun r1=>(QH 1) fun r2=>(g3)<|(ge)<|(Qc)<|Qn ?_
 refine zi rfl ?_ ?_
 ·intro hc0
  obtain rfl : t = 7 := by have := of_decide_eq_true hc0; omega
  refine (gd) ?_
  refine (Ca (zb6 hO b l vp v0 v1 vt fi tn dd y r ow vk us ps hk hp h1 hy hr ho w hw))<|(ga) ?_
  refine z5 (i := 1) (Uz 37) rfl rfl (z3 _ _) (z7 ⟨fun _ => rfl, fun _ => rfl, fun _ => h1.1, fun _ => h1.2.1, fun _ => h1.2.2.1, fun _ => h1.2.2.2.1, fun _ => rfl, fun _ => rfl, fun _ => rfl, fun _ => rfl, fun _ => rfl, fun _ => rfl, fun _ => rfl, fun _ => rfl, fun _ => rfl, fun _ => rfl, fun _ => rfl, fun _ => rfl, fun _ => rfl, fun _ => rfl, fun _ => rfl, fun _ => h1.2.2.2.2, fun _ => rfl, trivial⟩) rfl za (.inl rfl) ?_
  refine (gt) ?_
  exact ⟨_, _, rfl, yb 1, yt⟩
 ·intro hc0
  have h9 : ¬ t = 7 := by have := of_decide_eq_false hc0; omega
  refine Qk<|(gd)<|(Qm) ?_
  refine (Ca (z70 hO b l vp v0 v1 vt fi tn dd y r ow vk us ps hk hp h1 hy hr ho t h3 (by omega) w hw))<|(ga) ?_
  refine z5 (i := 1) (Uz 37) rfl rfl (z3 _ _) (z7 ⟨fun _ => rfl, fun _ => rfl, fun _ => h1.1, fun _ => h1.2.1, fun _ => h1.2.2.1, fun _ => h1.2.2.2.1, fun _ => rfl, fun _ => rfl, fun _ => rfl, fun _ => rfl, fun _ => rfl, fun _ => rfl, fun _ => rfl, fun _ => rfl, fun _ => rfl, fun _ => rfl, fun _ => rfl, fun _ => rfl, fun _ => rfl, fun _ => rfl, fun _ => rfl, fun _ => h1.2.2.2.2, fun _ => rfl, trivial⟩) rfl za (.inl rfl) ?_
  refine (gt) ?_
  exact ⟨_, _, rfl, yb 1, yt⟩
theorem zds {G X : Mem} (has : Bool) (k : NN) (n : Nat) (ch h : NN) (h2 : Bool) (k2 : NN) (n2 : Nat) (v : Value) (l : LN) (hv : Shows ((DOR :: G) ++ X) 1 v l.length (l.map by8)) (hb : By l) (hh : L8 32 h) (hz : l.length ≤ 1073741792) : Fp ((DOR :: G) ++ X) 133 #[SV has k n ch h, CV h2 k2 n2, v] (SV h2 k2 n2 ch (hx h l)) := zfb (G := G ++ X) has k n ch h h2 k2 n2 v l hv hb hh hz
theorem z7r (has : Bool) (k : NN) (n : Nat) (ch h : NN) (vt : Value) (tx : LN) (hvt : Sh (DOR :: G) vt tx) (e : Nat) (he : e ≠ 0) (hE : ∀ (G2 : Mem) (va : Value), Sh G2 va ((List.range 32).map h) → Sh G2 vt tx → Fp G2 132 #[CV has k n, va, vt] (.tuple #[CZ, yg, ii e])) : Fp (DOR :: G) 92 #[SV has k n ch h, vt] (.tuple #[(.agg (cells 98 [pV (.bool false), pI .u8 32 (fun _ => 0), pV (.int .u64 0), pI .u8 32 (fun _ => 0), pI .u8 32 (fun _ => 0)])), yg, ii e]) := by
 refine Qf3 Tryz.func92 ?_
 refine (g4)<|(Qh 0) fun r1=>(QH 1) fun r2=>(g8)<|(gr)<|(Qf 0)<|(QlK 0 0 3) ?_
 refine (Av (CV has k n))<|(Qf 66)<|(Qsa 0 32)<|(Qm) ?_
 refine zg rfl rfl (Un 132) (zf (zZ 0 rfl ⟨[], trivial⟩) ze) (hE ([⟨r1, cS has k n ch h, 35⟩] ++ (DOR :: G)) _ ((vV r1 4 35 h rfl (Nat.le_of_ble_eq_true rfl) (Nat.le_of_ble_eq_true rfl)).mono (fun x h => List.mem_append_left _ h)) (hvt.mono (fun x h => List.mem_append_right _ h))) rfl rfl ?_
 refine (jn)<|(QH 2) fun r3=>(QW 2)<|(ja)<|(QN)<|(Qat)<|(gv)<|(g4) ?_
 refine zA (cells 98 [pV (.bool false), pI .u8 32 (fun _ => 0), pV (.int .u64 0), pI .u8 32 (fun _ => 0), pI .u8 32 (fun _ => 0)]) (Ub 35 rfl) (Uu 35 rfl) z0b rfl (by kernel_rfl) rfl ?_
 refine (Qm)<|(jk) ?_
 exact ⟨_, _, _, rfl, yb 1, yt, yt⟩
theorem z2n (has : Bool) (k : NN) (n : Nat) (ch h : NN) (vt : Value) (tx out : LN) (hvt : Sh (DOR :: G) vt tx) (hob : By out) (hol : out.length ≤ 1000) (hh : L8 32 h) (h2 : Bool) (k2 : NN) (n2 : Nat) (hE : ∀ (G2 : Mem) (va : Value), Sh G2 va ((List.range 32).map h) → Sh G2 vt tx → Fq G2 [] 132 #[CV has k n, va, vt] (fun v l1 nw => l1 = [] ∧ ∃ v', v = .tuple #[CV h2 k2 n2, v', ii 0] ∧ OwnS 5 1 v' out.length (out.map by8) nw)) : Fq (DOR :: G) [] 92 #[SV has k n ch h, vt] (fun v l1 nw => l1 = [] ∧ ∃ v', v = .tuple #[SV h2 k2 n2 ch (hx h out), v', ii 0] ∧ OwnS 5 1 v' out.length (out.map by8) nw) := by
 refine QfO Tryz.func92 ?_
 refine (g4)<|(Qh 0) fun r1=>(QH 1) fun r2=>(g8)<|Qs<|(Qq ⟨[], 4, [], none, none⟩)<|(Qf 0)<|(QlK 0 0 3) ?_
 refine (Av (CV has k n))<|(Qf 66)<|(Qsa 0 32)<|(Qm) ?_
 refine zG 2 (fun v => .tuple #[CV h2 k2 n2, v, ii 0]) rfl rfl (Un 132) (zf (zZ 0 rfl ⟨[], trivial⟩) ze) (hE ([⟨r1, cS has k n ch h, 35⟩] ++ (DOR :: G)) _ ((vV r1 4 35 h rfl (Nat.le_of_ble_eq_true rfl) (Nat.le_of_ble_eq_true rfl)).mono (fun x h => List.mem_append_left _ h)) (hvt.mono (fun x h => List.mem_append_right _ h))) (by simp only [maxLen]; omega) (by rw [List.length_map, Nat.mul_one]) rfl rfl fun v1_1 oz1_1 ho1_1 => ?_
 refine (jn)<|(QH 3) fun r4=>(QW 3)<|(ja)<|(QN) ?_
 refine z6 (congrArg Value.bool (decide_eq_false (fun h => h rfl))) ?_
 refine (go)<|(gd) ?_
 refine (Av (SV has k n ch h))<|(QD 3) ?_
 refine (Av (CV h2 k2 n2))<|(Qm) ?_
 refine zg rfl rfl (Un 133) (zf ze (zL 2 rfl ⟨[], trivial⟩)) (zds (G := G) (X := oz1_1.toList) has k n ch h h2 k2 n2 _ out (Shows.mono (zY ho1_1) (fun x h => List.mem_append_right _ h)) hob hh (by omega)) rfl rfl ?_
 refine (Qm)<|(jk) ?_
 exact ⟨_, _, _, _, _, 2, rfl, yb 1, yt, yt, ho1_1, rfl⟩
theorem z9r (has : Bool) (k : NN) (n : Nat) (va vt : Value) (vf : Value) (hok : okC has k n = false) : Fp G 170 #[CV has k n, va, vt, vf] (.tuple #[CZ, yg, ii 9]) := by
 refine Qf3 Tryz.func170 ?_
 refine (g4)<|(Qh 0) fun r1=>(QH 1) fun r2=>(g8)<|Qs<|(gd) ?_
 refine (Ca (Zk has k n)) ?_
 refine (Ai (show (if okC has k n = true then 0 else 9) = 9 by rw [hok]; rfl))<|(jm)<|(gv)<|(g4) ?_
 refine zA (cells 34 [pV (.bool false), pI .u8 32 (fun _ => 0), pV (.int .u64 0)]) (Ub 33 rfl) (Uu 33 rfl) vM rfl (by kernel_rfl) rfl ?_
 refine (Qm)<|(jk) ?_
 exact ⟨_, _, _, rfl, yb 1, yt, yt⟩
theorem z6b (k : NN) (n : Nat) (va vt : Value) (vf : Value) (tx : LN) (hvt : Sh G vt tx) (hok : okC false k n = true) (hl : 800 < tx.length) : Fp G 170 #[CV false k n, va, vt, vf] (.tuple #[CZ, yg, ii 1]) := by
 refine Qf3 Tryz.func170 ?_
 refine (g4)<|(Qh 0) fun r1=>(QH 1) fun r2=>(g8)<|Qs<|(gd) ?_
 refine (Ca (Zk false k n)) ?_
 refine (Ai (show (if okC false k n = true then 0 else 9) = 0 by rw [hok]; rfl))<|(jm)<|(jt)<|(j0)<|(Q0)<|(gv)<|(gd)<|(Qm) ?_
 refine (Ca (z7O k n vt tx hvt hl))<|(ga)<|(Qx)<|(jk) ?_
 exact ⟨_, _, _, rfl, yb 1, yt, yt⟩
theorem z5X (k : NN) (n : Nat) (va vt : Value) (vf : Value) (tx : LN) (hvt : Sh G vt tx) (hok : okC false k n = true) (hl : tx.length ≤ 800) : Fq G [] 170 #[CV false k n, va, vt, vf] (fun v l1 nw => l1 = [] ∧ ∃ v', v = .tuple #[CV false k n, v', ii 0] ∧ OwnS 5 1 v' tx.length (tx.map by8) nw) := by
 refine QfO Tryz.func170 ?_
 refine (g4)<|(Qh 0) fun r1=>(QH 1) fun r2=>(g8)<|Qs<|(gd) ?_
 refine (Ca (Zk false k n)) ?_
 refine (Ai (show (if okC false k n = true then 0 else 9) = 0 by rw [hok]; rfl))<|(jm)<|(jt)<|(j0)<|(Q0)<|(gv)<|Qs<|QR ⟨[], 4, [], none, none⟩<|(QD 0)<|(Qm) ?_
 refine zG 2 (fun v => .tuple #[CV false k n, v, ii 0]) rfl rfl (Un 196) ze (zbG k n vt tx hvt hl) (by simp only [maxLen]; omega) (by rw [List.length_map, Nat.mul_one]) rfl rfl fun v3_1 oz3_1 ho3_1 => ?_
 refine (ga)<|(Qx)<|(jk) ?_
 exact ⟨_, _, _, _, _, 2, rfl, yb 1, yt, yt, ho3_1, rfl⟩
theorem z6w (k : NN) (n : Nat) (va vt : Value) (vf : Value) (hn : n = 18446744073709551615) : Fp G 170 #[CV true k n, va, vt, vf] (.tuple #[CZ, yg, ii 11]) := by
 have hok : okC true k n = true := rfl
 refine Qf3 Tryz.func170 ?_
 refine (g4)<|(Qh 0) fun r1=>(QH 1) fun r2=>(g8)<|Qs<|(gd) ?_
 refine (Ca (Zk true k n)) ?_
 refine (Ai (show (if okC true k n = true then 0 else 9) = 0 by rw [hok]; rfl))<|(jm)<|(jt)<|(j0)<|(Q0)<|(jt)<|(gx)<|(Qc) ?_
 refine (Ab (decide_eq_true (by rw [hn]; decide)))<|(gv)<|(g4) ?_
 refine zA (cells 34 [pV (.bool false), pI .u8 32 (fun _ => 0), pV (.int .u64 0)]) (Ub 33 rfl) (Uu 33 rfl) vM rfl (by kernel_rfl) rfl ?_
 refine (jk) ?_
 exact ⟨_, _, _, rfl, yb 1, yt, yt⟩
theorem z14 (k : NN) (n : Nat) (va vt : Value) (hn : n < 18446744073709551615) (e : Nat) (he : e ≠ 0) (hE : Fp G 171 #[.agg (arr .u8 32 k), .agg (arr .u8 12 (wb n)), va, vt] (.tuple #[yg, ii e])) : Fp G 170 #[CV true k n, va, vt, .func (.func 171) #[] #[]] (.tuple #[CZ, yg, ii e]) := by
 have hok : okC true k n = true := rfl
 refine Qf3 Tryz.func170 ?_
 refine (g4)<|(Qh 0) fun r1=>(QH 1) fun r2=>(g8)<|Qs<|(gd) ?_
 refine (Ca (Zk true k n)) ?_
 refine (Ai (show (if okC true k n = true then 0 else 9) = 0 by rw [hok]; rfl))<|(jm)<|(jt)<|(j0)<|(Q0)<|(jt)<|(gx)<|(Qc)<|(j8)<|(gr)<|(Qm)<|(Qf 1)<|(Qv 1 0)<|(gx) ?_
 refine (Ca (z2D n))<|(gb) ?_
 refine zg rfl rfl (Un 171) ze hE rfl rfl ?_
 refine (gi)<|(ja)<|(QN)<|(Qat)<|(gv)<|(g4) ?_
 refine zA (cells 34 [pV (.bool false), pI .u8 32 (fun _ => 0), pV (.int .u64 0)]) (Ub 33 rfl) (Uu 33 rfl) vM rfl (by kernel_rfl) rfl ?_
 refine (Qm)<|(jk) ?_
 exact ⟨_, _, _, rfl, yb 1, yt, yt⟩
theorem z1u (k : NN) (n : Nat) (va vt : Value) (hn : n < 18446744073709551615) (out : LN) (hm : out.length ≤ maxLen) (hE : Fq G [] 171 #[.agg (arr .u8 32 k), .agg (arr .u8 12 (wb n)), va, vt] (R2 5 out)) : Fq G [] 170 #[CV true k n, va, vt, .func (.func 171) #[] #[]] (fun v l1 nw => l1 = [] ∧ ∃ v', v = .tuple #[CV true k (n + 1), v', ii 0] ∧ OwnS 5 1 v' out.length (out.map by8) nw) := by
 have hok : okC true k n = true := rfl
 refine QfO Tryz.func170 ?_
 refine (g4)<|(Qh 0) fun r1=>(QH 1) fun r2=>(g8)<|Qs<|(gd) ?_
 refine (Ca (Zk true k n)) ?_
 refine (Ai (show (if okC true k n = true then 0 else 9) = 0 by rw [hok]; rfl))<|(jm)<|(jt)<|(j0)<|(Q0)<|(jt)<|(gx)<|(Qc)<|(j8)<|Qs<|(Qq ⟨[], 4, [], none, none⟩)<|(Qm)<|(Qf 1)<|(Qv 1 0)<|(gx) ?_
 refine (Ca (z2D n))<|(gb) ?_
 refine zG 2 (fun v => .tuple #[v, ii 0]) rfl rfl (Un 171) ze hE hm (by rw [List.length_map, Nat.mul_one]) rfl rfl fun v4_1 oz4_1 ho4_1 => ?_
 refine (gi)<|(ja)<|(QN) ?_
 refine z6 (congrArg Value.bool (decide_eq_false (fun h => h rfl))) ?_
 refine (go)<|(g4)<|(gx) ?_
 refine wM (q := 1) rfl rfl rfl  ?_
 refine (Au (Nat.mod_eq_of_lt (show n + 1 < 18446744073709551616 by omega)))<|(Qf 33)<|(QtV 0 2)<|Qn<|(gd) ?_
 refine (Av (CV true k (n + 1)))<|(Qm)<|(jk) ?_
 exact ⟨_, _, _, _, _, 2, rfl, yb 1, yt, yt, ho4_1, rfl⟩
theorem z6P (has : Bool) (k : NN) (n : Nat) (va vt : Value) (e : Nat) (hU : Fp G 170 #[CV has k n, va, vt, .func (.func 171) #[] #[]] (.tuple #[CZ, yg, ii e])) : Fp G 132 #[CV has k n, va, vt] (.tuple #[CZ, yg, ii e]) := by
 refine Qf3 Tryz.func132 ?_
 refine (g4)<|(Qh 0) fun r1=>(QH 1) fun r2=>(g8)<|(gd)<|(gb) ?_
 refine (Ca hU)<|(ga)<|(Qx)<|(jk) ?_
 exact ⟨_, _, _, rfl, yb 1, yt, yt⟩
theorem z2o (has : Bool) (k : NN) (n : Nat) (va vt : Value) (h2 : Bool) (k2 : NN) (n2 : Nat) (out : LN) (hm : out.length ≤ maxLen) (hU : Fq G [] 170 #[CV has k n, va, vt, .func (.func 171) #[] #[]] (fun v l1 nw => l1 = [] ∧ ∃ v', v = .tuple #[CV h2 k2 n2, v', ii 0] ∧ OwnS 5 1 v' out.length (out.map by8) nw)) : Fq G [] 132 #[CV has k n, va, vt] (fun v l1 nw => l1 = [] ∧ ∃ v', v = .tuple #[CV h2 k2 n2, v', ii 0] ∧ OwnS 5 1 v' out.length (out.map by8) nw) := by
 refine QfO Tryz.func132 ?_
 refine (g4)<|(Qh 0) fun r1=>(QH 1) fun r2=>(g8)<|Qs<|QR ⟨[], 4, [], none, none⟩<|(QD 0)<|(gb) ?_
 refine zG 2 (fun v => .tuple #[CV h2 k2 n2, v, ii 0]) rfl rfl (Un 170) ze hU hm (by rw [List.length_map, Nat.mul_one]) rfl rfl fun v1_1 oz1_1 ho1_1 => ?_
 refine (ga)<|(Qx)<|(jk) ?_
 exact ⟨_, _, _, _, _, 2, rfl, yb 1, yt, yt, ho1_1, rfl⟩
theorem zdd {G : Mem} (hO : DOR ∈ G) (y : SY) (hy : okY y) (vt : Value) (tx : LN) (hvt : Sh G vt tx) (htb : By tx) (w : Nat × SY × LN) (hw : yL y tx = w) :
  (w.1 ≠ 0 → Fn Tryz.prog G 92 #[SVy y, vt] (.tuple #[SVy w.2.1, yg, ii w.1])) ∧ (w.1 = 0 → Fx Tryz.prog G [] 92 #[SVy y, vt] (fun v l1 nw => l1 = [] ∧ ∃ v', v = .tuple #[SVy w.2.1, v', ii 0] ∧ OwnS 5 1 v' w.2.2.length (w.2.2.map by8) nw)) := by
 obtain ⟨has, k, n, ch, h⟩ := y
 obtain ⟨hk, hn, hc, hh⟩ := hy
 have hv2 : Shows (DOR :: G) 1 vt tx.length (tx.map by8) := hvt.mono fun _ hx => List.mem_cons_of_mem _ hx
 have hk : ∀ j, j < 32 → k j < 256 := hk
 have hn : n < 18446744073709551616 := hn
 have hh : ∀ j, j < 32 → h j < 256 := hh
 have ee : ∀ (has : Bool) (e : Nat), e ≠ 0 → (∀ (G2 : Mem) (va : Value), Shows G2 1 va (ky h).length ((ky h).map by8) → Shows G2 1 vt tx.length (tx.map by8) → Fn Tryz.prog G2 170 #[CV has k n, va, vt, .func (.func 171) #[] #[]] (.tuple #[CZ, yg, ii e])) → Fn Tryz.prog G 92 #[SV has k n ch h, vt] (.tuple #[SVy SYZ, yg, ii e]) := fun has e he hU =>
  (z7r (G := G) has k n ch h vt tx hv2 e he (fun G2 va ha ht => z6P has k n va vt e (hU G2 va ha ht))).more (in1 hO)
 by_cases hok : okC has k n = false
 ·obtain rfl : w = (9, SYZ, []) := by rw [← hw]; exact if_pos hok
  exact ⟨fun _ => ee has 9 (by decide) fun _ va _ _ => z9r has k n va vt _ hok, fun h0 => absurd h0 z6l⟩
 have hok2 : okC has k n = true := by simpa using hok
 cases has
 ·by_cases hl : 800 < tx.length
  ·obtain rfl : w = (1, SYZ, []) := by rw [← hw]; exact (if_neg hok).trans ((if_pos rfl).trans (if_pos hl))
   exact ⟨fun _ => ee false 1 (by decide) fun _ va _ ht => z6b k n va vt _ tx ht hok2 hl, fun h0 => absurd h0 WO⟩
  ·obtain rfl : w = (0, Yb (false, k, n, ch, h) tx, tx) := by rw [← hw]; exact (if_neg hok).trans ((if_pos rfl).trans (if_neg hl))
   exact ⟨fun h0 => absurd rfl h0, fun _ => (z2n (G := G) false k n ch h vt tx tx hv2 htb (by omega) hh false k n (fun G2 va _ ht => z2o false k n va vt false k n tx (by simp only [maxLen]; omega) (z5X k n va vt _ tx ht hok2 (by omega)))).wide (in1 hO)⟩
 have ht : ¬ true = false := by decide
 by_cases hov : n = 18446744073709551615
 ·obtain rfl : w = (11, SYZ, []) := by rw [← hw]; exact (if_neg hok).trans ((if_neg ht).trans (if_pos hov))
  exact ⟨fun _ => ee true 11 (by decide) fun _ va _ _ => z6w k n va vt _ hov, fun h0 => absurd h0 Wy⟩
 have hn1 : n < 18446744073709551615 := by omega
 by_cases h2 : 800 < tx.length
 ·obtain rfl : w = (1, SYZ, []) := by rw [← hw]; exact (if_neg hok).trans ((if_neg ht).trans ((if_neg hov).trans (if_pos h2)))
  exact ⟨fun _ => ee true 1 (by decide) fun _ va ha ht => z14 k n va vt hn1 1 (by decide) (z7f k (wb n) va vt (ky h) tx ha ht (by simp) h2), fun h0 => absurd h0 WO⟩
 obtain rfl : w = (0, (true, k, n + 1, ch, hx h (ve k (wb n) (ky h) tx)), ve k (wb n) (ky h) tx) := by rw [← hw]; exact (if_neg hok).trans ((if_neg ht).trans ((if_neg hov).trans (if_neg h2)))
 exact ⟨fun h0 => absurd rfl h0, fun _ => (z2n (G := G) true k n ch h vt tx (ve k (wb n) (ky h) tx) hv2 (Wi _ _ _ _) (by rw [wF]; omega) hh true k (n + 1) (fun G2 va ha ht => z2o true k n va vt true k (n + 1) _ (by rw [wF]; simp only [maxLen]; omega) (z1u k n va vt hn1 _ (by rw [wF]; simp only [maxLen]; omega) (zdS k (wb n) va vt (ky h) tx hk (z8R n) ha ht (xK hh) (by simp) (by omega))))).wide (in1 hO)⟩
theorem Va (hO : DOR ∈ G) (b : LN) (l : Bool) (vp v0 v1 vt : Value) (fi : Bool) (tn : Int) (dd : Bool) (y : SY) (r : RS) (ow : NN) (vk : Value) (us : Int) (h1 : xU vp v0 v1 vt vk) (hy : okY y) (vx : Value) (tx : LN) (hvt : Sh G vx tx) (htb : By tx) (w : Nat × SY × LN) (hw : yL y tx = w) (he : w.1 ≠ 0) : Fp G 53 #[.agg (shC b l vp v0 v1 vt fi tn dd y ow r vk us), vx] (.tuple #[.agg (shC b l vp v0 v1 vt fi tn dd w.2.1 ow r vk us), yg, ii w.1]) := by
 refine Qf3 Tryz.func53 ?_
 refine (g4)<|(Qh 0) fun r1=>(QH 1) fun r2=>(g8)<|(g4)<|(gy) ?_
 refine (Av (SVy y))<|(Qm) ?_
 refine (Ca ((zdd hO y hy vx tx hvt htb w hw).1 he))<|(jn)<|(QH 2) fun r3=>(QW 2)<|(g8)<|(g4)<|(QD 2)<|(j7) ?_
 refine yM (c' := shC b l vp v0 v1 vt fi tn dd w.2.1 ow r vk us) rfl ?_
 refine Qn<|(gd)<|(gb) ?_
 refine z5 (i := 1) (Uz 37) rfl rfl (z3 _ _) (z7 ⟨fun _ => rfl, fun _ => rfl, fun _ => h1.1, fun _ => h1.2.1, fun _ => h1.2.2.1, fun _ => h1.2.2.2.1, fun _ => rfl, fun _ => rfl, fun _ => rfl, fun _ => rfl, fun _ => rfl, fun _ => rfl, fun _ => rfl, fun _ => rfl, fun _ => rfl, fun _ => rfl, fun _ => rfl, fun _ => rfl, fun _ => rfl, fun _ => rfl, fun _ => rfl, fun _ => h1.2.2.2.2, fun _ => rfl, trivial⟩) rfl za (.inl rfl) ?_
 refine (h8) ?_
 exact ⟨_, _, _, rfl, yb 1, yt, yt⟩
theorem z0A (hO : DOR ∈ G) (b : LN) (l : Bool) (vp v0 v1 vt : Value) (fi : Bool) (tn : Int) (dd : Bool) (y : SY) (r : RS) (ow : NN) (vk : Value) (us : Int) (h1 : xU vp v0 v1 vt vk) (hy : okY y) (vx : Value) (tx : LN) (hvt : Sh G vx tx) (htb : By tx) (w : Nat × SY × LN) (hw : yL y tx = w) (htl : tx.length ≤ 100000) (he : w.1 = 0) : Fq G [] 53 #[.agg (shC b l vp v0 v1 vt fi tn dd y ow r vk us), vx] (fun v l1 nw => l1 = [] ∧ ∃ v', v = .tuple #[.agg (shC b l vp v0 v1 vt fi tn dd w.2.1 ow r vk us), v', ii 0] ∧ OwnS 5 1 v' w.2.2.length (w.2.2.map by8) nw) := by
 have hwl : w.2.2.length ≤ tx.length + 16 := by rw [← hw]; have := wE y tx; omega
 refine QfO Tryz.func53 ?_
 refine (g4)<|(Qh 0) fun r1=>(QH 1) fun r2=>(g8)<|Qs<|QR ⟨[], 4, [], none, none⟩<|(gy) ?_
 refine (Av (SVy y))<|(Qm) ?_
 refine zG 2 (fun v => .tuple #[SVy w.2.1, v, ii 0]) rfl rfl (Un 92) ze ((zdd hO y hy vx tx hvt htb w hw).2 he) (by simp only [maxLen]; omega) (by rw [List.length_map, Nat.mul_one]) rfl rfl fun v1_1 oz1_1 ho1_1 => ?_
 refine (jn)<|(QH 3) fun r4=>(QW 3)<|(g8)<|(g4)<|(QD 3)<|(j7) ?_
 refine yM (c' := shC b l vp v0 v1 vt fi tn dd w.2.1 ow r vk us) rfl ?_
 refine Qn<|(gd)<|(gb) ?_
 refine z5 (i := 1) (Uz 37) rfl rfl (z3 _ _) (z7 ⟨fun _ => rfl, fun _ => rfl, fun _ => h1.1, fun _ => h1.2.1, fun _ => h1.2.2.1, fun _ => h1.2.2.2.1, fun _ => rfl, fun _ => rfl, fun _ => rfl, fun _ => rfl, fun _ => rfl, fun _ => rfl, fun _ => rfl, fun _ => rfl, fun _ => rfl, fun _ => rfl, fun _ => rfl, fun _ => rfl, fun _ => rfl, fun _ => rfl, fun _ => rfl, fun _ => h1.2.2.2.2, fun _ => rfl, trivial⟩) rfl za (.inl rfl) ?_
 refine (h8) ?_
 exact ⟨_, _, _, _, _, 2, rfl, yb 1, yt, yt, ho1_1, rfl⟩
theorem zjn (hO : DOR ∈ G) (b : LN) (l : Bool) (vp v0 v1 vt : Value) (fi : Bool) (tn : Int) (dd : Bool) (y : SY) (r : RS) (ow : NN) (vk : Value) (us : Nat) (ps : List (NN)) (hk : Shows G 32 vk ps.length (psC ps)) (hp : okP ps) (h1 : xU vp v0 v1 vt vk) (hy : okY y) (hr : okR r) (ho : B32 ow) (sc : NN) (hs : B32 sc) : Fq G [] 52 #[.agg (shC b l vp v0 v1 vt fi tn dd y ow r vk ((us : Nat) : Int)), ii 1, .agg (arr .u8 32 sc)] (fun v l1 nw => l1 = [] ∧ ∃ v', v = .tuple #[.agg (shC b l vp v0 v1 vt fi tn dd (xk (npk ps) y (zQ sc)) ow (sc, true, r.2.2) vk ((us : Nat) : Int)), v', ii 0] ∧ OwnS 30 1 v' (ky (zQ sc)).length ((ky (zQ sc)).map by8) nw) := by
 have _u1 := hp
 have _u2 := hr
 have _u3 := ho
 obtain ⟨z, hz⟩ : ∃ z, z = xk (npk ps) y (zQ sc) := ⟨_, rfl⟩
 rw [← hz]
 refine QfO Tryz.func52 ?_
 refine (g4)<|(Qh 0) fun r1=>(Qh 1) fun r2=>(QH 2) fun r3=>(ja)<|Qn<|Qb<|(g4)<|(Qc)<|(g3)<|(Qct)<|(gd)<|(Qd 1) ?_
 refine (Ca (zcZ hO b l vp v0 v1 vt fi tn dd y r ow vk us sc ps hk h1 hy hs)) ?_
 refine z6 (show _ = Value.tuple #[.agg (shC b l vp v0 v1 vt fi tn dd z ow (sc, true, r.2.2) vk ((us : Nat) : Int)), .agg (arr .u8 32 (zQ sc))] by rw [hz]) ?_
 refine (gi)<|(QH 3) fun r4=>(QH 4) fun r5=>?_
 refine z5 (i := 3) (Uz 37) rfl rfl (z3 _ _) (z7 ⟨fun _ => rfl, fun _ => rfl, fun _ => h1.1, fun _ => h1.2.1, fun _ => h1.2.2.1, fun _ => h1.2.2.2.1, fun _ => rfl, fun _ => rfl, fun _ => rfl, fun _ => rfl, fun _ => rfl, fun _ => rfl, fun _ => rfl, fun _ => rfl, fun _ => rfl, fun _ => rfl, fun _ => rfl, fun _ => rfl, fun _ => rfl, fun _ => rfl, fun _ => rfl, fun _ => h1.2.2.2.2, fun _ => rfl, trivial⟩) rfl za (.inl rfl) ?_
 refine (Qt 4)<|Qn<|Qs<|(Qq ⟨[r3], 1, [], none, none⟩) ?_
 refine zF (i := 3) (Uu 37) rfl (Uz 37) rfl rfl (z3 _ _) rfl ⟨[2], rfl, rfl, trivial⟩ ?_
 refine (Qsa 0 32) ?_
 refine z5 (i := 2) (Uz 37) rfl rfl (z3 _ _) (z7 ⟨fun _ => rfl, fun _ => rfl, fun _ => h1.1, fun _ => h1.2.1, fun _ => h1.2.2.1, fun _ => h1.2.2.2.1, fun _ => rfl, fun _ => rfl, fun _ => rfl, fun _ => rfl, fun _ => rfl, fun _ => rfl, fun _ => rfl, fun _ => rfl, fun _ => rfl, fun _ => rfl, fun _ => rfl, fun _ => rfl, fun _ => rfl, fun _ => rfl, fun _ => rfl, fun _ => h1.2.2.2.2, fun _ => rfl, trivial⟩) rfl za (.inr (by simp)) ?_
 refine (h8) ?_
 exact ⟨_, _, _, _, _, 4, rfl, yb 2, yt, yt, (zy (Yi (l := ky (zQ sc)) (WT _) (by decide) (fun j hj => (zjU hj).symm)) (by simp) rfl), rfl⟩
theorem zbg (hO : DOR ∈ G) (b : LN) (l : Bool) (vp v0 v1 vt : Value) (fi : Bool) (tn : Int) (dd : Bool) (y : SY) (r : RS) (ow : NN) (vk : Value) (us : Nat) (ps : List (NN)) (hk : Shows G 32 vk ps.length (psC ps)) (hp : okP ps) (h1 : xU vp v0 v1 vt vk) (hy : okY y) (hr : okR r) (ho : B32 ow) (sc : NN) (hs : B32 sc) (w : Nat × SY × LN) (hw : yL y (ky (zQ ow)) = w) (he : w.1 = 0) : Fq G [] 52 #[.agg (shC b l vp v0 v1 vt fi tn dd y ow r vk ((us : Nat) : Int)), ii 2, .agg (arr .u8 32 sc)] (fun v l1 nw => l1 = [] ∧ ∃ v', v = .tuple #[.agg (shC b l vp v0 v1 vt fi tn dd w.2.1 ow r vk ((us : Nat) : Int)), v', ii 0] ∧ OwnS 5 1 v' w.2.2.length (w.2.2.map by8) nw) := by
 have _u1 := hp
 have _u2 := hr
 have _u3 := hs
 have _u4 := hk
 have hwl : w.2.2.length ≤ 48 := by rw [← hw]; have := wE y (ky (zQ ow)); rw [WT] at this; exact this
 refine QfO Tryz.func52 ?_
 refine (g4)<|(Qh 0) fun r1=>(Qh 1) fun r2=>(QH 2) fun r3=>(ja)<|Qn<|Qb<|(g4)<|(Qc)<|(g3)<|(Qcf)<|(g4)<|(Qc)<|(g3)<|(Qct)<|(g4)<|(Qf 107)<|(Qv 14 0) ?_
 refine (Ca (z0K ow ho)) ?_
 refine (Av (Value.agg (arr .u8 32 (zQ ow))))<|(QH 3) fun r4=>(Qt 3)<|Qn<|Qs<|(Qq ⟨[], 4, [], none, none⟩)<|(QD 0)<|(Qsa 0 32) ?_
 refine zG 4 (fun v => .tuple #[.agg (shC b l vp v0 v1 vt fi tn dd w.2.1 ow r vk ((us : Nat) : Int)), v, ii 0]) rfl rfl (Un 53) (zf ze (zZ 3 rfl ⟨[], trivial⟩)) (z0A (G := G ++ [(⟨r4, arr .u8 32 (zQ ow), 30⟩ : Blk)]) (List.mem_append_left _ hO) b l vp v0 v1 vt fi tn dd y r ow vk us h1 hy _ (ky (zQ ow)) ((y6 _ (zQ ow) _).mono (fun x h => List.mem_append_right _ h)) (xK (xr ow)) w hw (by simp) he) (by simp only [maxLen]; omega) (by rw [List.length_map, Nat.mul_one]) rfl rfl fun v3_1 oz3_1 ho3_1 => ?_
 refine (ga)<|(Qx) ?_
 refine z5 (i := 2) (Uz 37) rfl rfl (z3 _ _) (z7 ⟨fun _ => rfl, fun _ => rfl, fun _ => h1.1, fun _ => h1.2.1, fun _ => h1.2.2.1, fun _ => h1.2.2.2.1, fun _ => rfl, fun _ => rfl, fun _ => rfl, fun _ => rfl, fun _ => rfl, fun _ => rfl, fun _ => rfl, fun _ => rfl, fun _ => rfl, fun _ => rfl, fun _ => rfl, fun _ => rfl, fun _ => rfl, fun _ => rfl, fun _ => rfl, fun _ => h1.2.2.2.2, fun _ => rfl, trivial⟩) rfl za (.inl rfl) ?_
 refine (h8) ?_
 exact ⟨_, _, _, _, _, 4, rfl, yb 2, yt, yt, ho3_1, rfl⟩
theorem z6J (hO : DOR ∈ G) (b : LN) (l : Bool) (vp v0 v1 vt : Value) (fi : Bool) (tn : Int) (dd : Bool) (y : SY) (r : RS) (ow : NN) (vk : Value) (us : Nat) (ps : List (NN)) (hk : Shows G 32 vk ps.length (psC ps)) (hp : okP ps) (h1 : xU vp v0 v1 vt vk) (hy : okY y) (hr : okR r) (ho : B32 ow) (sc : NN) (hs : B32 sc) (w : Nat × SY × LN) (hw : yL y (ky (zQ ow)) = w) (he : w.1 ≠ 0) : Fp G 52 #[.agg (shC b l vp v0 v1 vt fi tn dd y ow r vk ((us : Nat) : Int)), ii 2, .agg (arr .u8 32 sc)] (.tuple #[.agg (shC b l vp v0 v1 vt fi tn dd w.2.1 ow r vk ((us : Nat) : Int)), yg, ii w.1]) := by
 have _u1 := hp
 have _u2 := hr
 have _u3 := hs
 have _u4 := hk
 refine Qf3 Tryz.func52 ?_
 refine (g4)<|(Qh 0) fun r1=>(Qh 1) fun r2=>(QH 2) fun r3=>(ja)<|Qn<|Qb<|(g4)<|(Qc)<|(g3)<|(Qcf)<|(g4)<|(Qc)<|(g3)<|(Qct)<|(g4)<|(Qf 107)<|(Qv 14 0) ?_
 refine (Ca (z0K ow ho)) ?_
 refine (Av (Value.agg (arr .u8 32 (zQ ow))))<|(QH 3) fun r4=>(Qt 3)<|(jf)<|(QD 0)<|(Qsa 0 32) ?_
 refine zg rfl rfl (Un 53) (zf ze (zZ 3 rfl ⟨[], trivial⟩)) (Va (G := G ++ [(⟨r4, arr .u8 32 (zQ ow), 30⟩ : Blk)]) (List.mem_append_left _ hO) b l vp v0 v1 vt fi tn dd y r ow vk us h1 hy _ (ky (zQ ow)) ((y6 _ (zQ ow) _).mono (fun x h => List.mem_append_right _ h)) (xK (xr ow)) w hw he) rfl rfl ?_
 refine (ga)<|(Qx) ?_
 refine z5 (i := 2) (Uz 37) rfl rfl (z3 _ _) (z7 ⟨fun _ => rfl, fun _ => rfl, fun _ => h1.1, fun _ => h1.2.1, fun _ => h1.2.2.1, fun _ => h1.2.2.2.1, fun _ => rfl, fun _ => rfl, fun _ => rfl, fun _ => rfl, fun _ => rfl, fun _ => rfl, fun _ => rfl, fun _ => rfl, fun _ => rfl, fun _ => rfl, fun _ => rfl, fun _ => rfl, fun _ => rfl, fun _ => rfl, fun _ => rfl, fun _ => h1.2.2.2.2, fun _ => rfl, trivial⟩) rfl za (.inl rfl) ?_
 refine (h8) ?_
 exact ⟨_, _, _, rfl, yb 2, yt, yt⟩
theorem ziK (hO : DOR ∈ G) (b : LN) (l : Bool) (vp v0 v1 vt : Value) (fi : Bool) (tn : Int) (dd : Bool) (y : SY) (r : RS) (ow : NN) (vk : Value) (us : Nat) (ps : List (NN)) (hk : Shows G 32 vk ps.length (psC ps)) (hp : okP ps) (h1 : xU vp v0 v1 vt vk) (hy : okY y) (hr : okR r) (ho : B32 ow) (sc : NN) (hs : B32 sc) (t : Nat) (h3 : 3 ≤ t) (h7 : t ≤ 7) (w : Nat × SS) (hw : xL fi ow ps t (y, r, us) = w) : Fp G 52 #[.agg (shC b l vp v0 v1 vt fi tn dd y ow r vk ((us : Nat) : Int)), ii t, .agg (arr .u8 32 sc)] (.tuple #[.agg (shC b l vp v0 v1 vt fi tn dd w.2.1 ow w.2.2.1 vk ((w.2.2.2 : Nat) : Int)), yg, ii w.1]) := by
 have _u1 := hs
 refine Qf3 Tryz.func52 ?_
 refine (g4)<|(Qh 0) fun r1=>(Qh 1) fun r2=>(QH 2) fun r3=>(ja)<|Qn<|Qb<|(g4)<|(Qc)<|(g3) ?_
 refine zi rfl ?_ ?_
 ·intro hc0
  exact absurd (of_decide_eq_true hc0) (by omega)
 ·intro hc0
  refine (g4)<|(Qc)<|(g3) ?_
  refine zi rfl ?_ ?_
  ·intro hc1
   exact absurd (of_decide_eq_true hc1) (by omega)
  ·intro hc1
   refine Qk<|(gd)<|(Qm) ?_
   refine (Ca (zhj hO b l vp v0 v1 vt fi tn dd y r ow vk us ps hk hp h1 hy hr ho t h3 h7 w hw))<|(gi)<|(QH 3) fun r4=>?_
   refine z5 (i := 3) (Uz 37) rfl rfl (z3 _ _) (z7 ⟨fun _ => rfl, fun _ => rfl, fun _ => h1.1, fun _ => h1.2.1, fun _ => h1.2.2.1, fun _ => h1.2.2.2.1, fun _ => rfl, fun _ => rfl, fun _ => rfl, fun _ => rfl, fun _ => rfl, fun _ => rfl, fun _ => rfl, fun _ => rfl, fun _ => rfl, fun _ => rfl, fun _ => rfl, fun _ => rfl, fun _ => rfl, fun _ => rfl, fun _ => rfl, fun _ => h1.2.2.2.2, fun _ => rfl, trivial⟩) rfl za (.inl rfl) ?_
   refine (j3)<|(QD 3)<|(Qm) ?_
   refine z5 (i := 2) (Uz 37) rfl rfl (z3 _ _) (z7 ⟨fun _ => rfl, fun _ => rfl, fun _ => h1.1, fun _ => h1.2.1, fun _ => h1.2.2.1, fun _ => h1.2.2.2.1, fun _ => rfl, fun _ => rfl, fun _ => rfl, fun _ => rfl, fun _ => rfl, fun _ => rfl, fun _ => rfl, fun _ => rfl, fun _ => rfl, fun _ => rfl, fun _ => rfl, fun _ => rfl, fun _ => rfl, fun _ => rfl, fun _ => rfl, fun _ => h1.2.2.2.2, fun _ => rfl, trivial⟩) rfl za (.inl rfl) ?_
   refine (h8) ?_
   exact ⟨_, _, _, rfl, yb 2, yt, yt⟩
theorem zid {G : Mem} (hO : DOR ∈ G) (b : LN) (l : Bool) (vp v0 v1 vt : Value) (fi : Bool) (tn : Int) (dd : Bool) (y : SY) (r : RS) (ow : NN) (vk : Value) (us : Nat) (ps : List (NN)) (hk : Shows G 32 vk ps.length (psC ps)) (hp : okP ps) (h1 : xU vp v0 v1 vt vk) (hy : okY y) (hr : okR r) (ho : B32 ow) (sc : NN) (hs : B32 sc) (t : Nat) (h1t : 1 ≤ t) (h7 : t ≤ 7) (w : Nat × SS × LN) (hw : vS fi ow ps sc t (y, r, us) = w) :
  (w.1 = 0 → Fx Tryz.prog G [] 52 #[.agg (shC b l vp v0 v1 vt fi tn dd y ow r vk ((us : Nat) : Int)), ii t, .agg (arr .u8 32 sc)] (fun v l1 nw => l1 = [] ∧ ∃ v', v = .tuple #[.agg (shC b l vp v0 v1 vt fi tn dd w.2.1.1 ow w.2.1.2.1 vk ((w.2.1.2.2 : Nat) : Int)), v', ii 0] ∧ Shows nw 1 v' w.2.2.length (w.2.2.map by8))) ∧ (w.1 ≠ 0 → Fn Tryz.prog G 52 #[.agg (shC b l vp v0 v1 vt fi tn dd y ow r vk ((us : Nat) : Int)), ii t, .agg (arr .u8 32 sc)] (.tuple #[.agg (shC b l vp v0 v1 vt fi tn dd w.2.1.1 ow w.2.1.2.1 vk ((w.2.1.2.2 : Nat) : Int)), yg, ii w.1])) := by
 by_cases t1 : t = 1
 ·subst t1
  obtain rfl : w = (0, (xk (npk ps) y (zQ sc), (sc, true, r.2.2), us), ky (zQ sc)) := by rw [← hw]; exact z68
  exact ⟨fun _ => (zjn hO b l vp v0 v1 vt fi tn dd y r ow vk us ps hk hp h1 hy hr ho sc hs).imp fun v l1 nw ⟨h1, v', h2, h3⟩ => ⟨h1, v', h2, h3.shows⟩, fun h => absurd rfl h⟩
 by_cases t2 : t = 2
 ·subst t2
  obtain ⟨z, hz⟩ : ∃ z, yL y (ky (zQ ow)) = z := ⟨_, rfl⟩
  obtain rfl : w = (z.1, (z.2.1, r, us), z.2.2) := by rw [← hw]; exact z6i hz
  exact ⟨fun h => (zbg hO b l vp v0 v1 vt fi tn dd y r ow vk us ps hk hp h1 hy hr ho sc hs z hz h).imp fun v l1 nw ⟨h1, v', h2, h3⟩ => ⟨h1, v', h2, h3.shows⟩, fun h => z6J hO b l vp v0 v1 vt fi tn dd y r ow vk us ps hk hp h1 hy hr ho sc hs z hz h⟩
 obtain ⟨z, hz⟩ : ∃ z, xL fi ow ps t (y, r, us) = z := ⟨_, rfl⟩
 obtain rfl : w = (z.1, z.2, []) := by rw [← hw]; exact z6I (by omega) hz
 have hX := ziK hO b l vp v0 v1 vt fi tn dd y r ow vk us ps hk hp h1 hy hr ho sc hs t (by omega) h7 z hz
 refine ⟨fun h => hX.fx.imp fun v l1 nw ⟨h2, h3, h4⟩ => ⟨h3, yg, ?_, ?_⟩, fun _ => hX⟩
 ·rw [h2]
  have h9 : z.1 = 0 := h
  rw [h9]
 ·rw [h4]; exact yI _ 1
end Go.Proofs.YtlidhfijmcelpaaGreatDoor
