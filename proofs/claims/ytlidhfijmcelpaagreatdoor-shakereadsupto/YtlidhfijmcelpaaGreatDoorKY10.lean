import Derived.Test.YtlidhfijmcelpaaGreatDoorKY9
set_option maxHeartbeats 4000000
set_option maxRecDepth 30000
attribute [local simp] Go.Proofs.YtlidhfijmcelpaaGreatDoor.By Go.Proofs.YtlidhfijmcelpaaGreatDoor.L8
namespace Go.Proofs.YtlidhfijmcelpaaGreatDoor
open Go Go.RowKit
variable {G : Mem}
theorem z5p (h d : NN) (n ln : Nat) (v : Value) (l : LN) (hv : Shows ((⟨1, arr .u32 8 ivf, 110⟩ : Blk) :: G) 1 v l.length (l.map by8)) (hn : n ≤ 64) (hl : ln ≤ 1073741824) (hok : okB n ln d = true) (hz : 1073741824 < ln + l.length) (hlm : l.length ≤ 4611686018427387904) : Fp ((⟨1, arr .u32 8 ivf, 110⟩ : Blk) :: G) 77 #[.agg (cells 74 [pI .u32 8 h, pI .u8 64 d, pV (.int .i64 (n : Int)), pV (.int .i64 (ln : Int))]), v] (.tuple #[.agg (cells 74 [pI .u32 8 (fun _ => 0), pI .u8 64 (fun _ => 0), pV (.int .i64 0), pV (.int .i64 0)]), ii 1]) := by
 refine Qf2 Tryz.func77 ?_
 refine (g4)<|(Qh 0) fun r1=>(QH 1) fun r2=>(g3)<|Qs<|(gc) ?_
 refine (Ca (X6 h d n ln hn hl)) ?_
 refine (Ab (show (!okB n ln d) = false by rw [hok]; rfl))<|(gn)<|(gs)<|(Qf 73)<|(QV 3 0)<|(Qm)<|(QC hv)<|(Q3)<|(QG)<|(Qat)<|(gu)<|(g4) ?_
 refine zC (cells 74 [pI .u32 8 (fun _ => 0), pI .u8 64 (fun _ => 0), pV (.int .i64 0), pV (.int .i64 0)]) (Ub 113 rfl) (Uu 113 rfl) z3B rfl (by kernel_rfl) rfl ?_
 refine (QW 1)<|(gt) ?_
 exact ⟨_, _, rfl, yb 1, yt⟩
theorem zal (h d : NN) (n ln : Nat) (v : Value) (l : LN) (hv : Shows ((⟨1, arr .u32 8 ivf, 110⟩ : Blk) :: G) 1 v l.length (l.map by8)) (hlb : By l) (hd : L8 64 d) (hl : ln ≤ 1073741824) (hok : okB n ln d = true) (hz : ln + l.length ≤ 1073741824) : Fp ((⟨1, arr .u32 8 ivf, 110⟩ : Blk) :: G) 77 #[.agg (cells 74 [pI .u32 8 h, pI .u8 64 d, pV (.int .i64 (n : Int)), pV (.int .i64 (ln : Int))]), v] (.tuple #[.agg (cells 74 [pI .u32 8 (Zb h (ln - n) (sS d n l) (yK (sS d n l).length)), pI .u8 64 (fun i => ((sS d n l).drop (64 * yK (sS d n l).length)).getD i 0), pV (.int .i64 (((sS d n l).drop (64 * yK (sS d n l).length)).length : Nat)), pV (.int .i64 (ln + l.length : Nat))]), ii 0]) := by
 obtain ⟨_, hnl, hn, hmod, _⟩ := Wi hok
 have hSl := V3 d n l
 have hSb := z9i (n := n) (fun j hj => hd j (by omega)) hlb
 refine Qf2 Tryz.func77 ?_
 refine (g4)<|(Qh 0) fun r1=>(QH 1) fun r2=>(g3)<|Qs<|(gc) ?_
 refine (Ca (X6 h d n ln hn hl)) ?_
 refine (Ab (show (!okB n ln d) = false by rw [hok]; rfl))<|(gn)<|(gs)<|(Qf 73)<|(QV 3 0)<|(Qm)<|(QC hv)<|(Q3)<|(QG)<|(gw)<|(g4)<|(Qf 8)<|(Qv 1 0)<|(QH 2) fun r3=>(Qt 2)<|(jf)<|(j5) ?_
 refine xo 0 n (Uu 111) (Uz 5) rfl rfl rfl rfl ⟨_, rfl⟩ (by omega) (by omega) (by omega) rfl ?_
 refine (QcS 2) ?_
 refine z6 (wm d n) ?_
 refine (Qm) ?_
 refine zx hv za (Uu 22) (Uu 5) (Uu 9) rfl rfl rfl ?_
 refine yn rfl rfl rfl (by simp; omega) ?_
 refine (Av (sv (sS d n l)))<|(j9)<|(Qf 73)<|(QV 3 0)<|(j5) ?_
 refine yP rfl rfl rfl (by omega) (by omega) ?_
 refine (g3)<|Qs<|Qb ?_
 refine QzK [(1, _), (2, _), (4, _), (5, _)] [(1, _), (2, _)] (fun kk E m => ∃ (k : Nat), kk = (sS d n l).length - 64 * k ∧ E = [(7, sv ((sS d n l).drop (64 * k))), (8, ii (ln - n + 64 * k))] ∧ m = [(0, some ⟨r1, cells 74 [pI .u32 8 (Zb h (ln - n) (sS d n l) k), pI .u8 64 d, pV (.int .i64 (n : Int)), pV (.int .i64 (ln : Int))], 113⟩)] ∧ (64 * k ≤ (sS d n l).length) ∧ (k = 0 ∨ 64 * k < (sS d n l).length)) ⟨0, rfl, rfl, rfl, by omega, .inl rfl⟩ ⟨rfl, rfl, rfl, rfl, rfl, rfl, trivial⟩ ⟨rfl, rfl, rfl, trivial⟩ ?_
 rintro kk E m ⟨k, rfl, rfl, rfl, hf0_0, hf0_1⟩
 simp only [zo, zu]
 have hdl : ((sS d n l).drop (64 * k)).length = (sS d n l).length - 64 * k := List.length_drop
 refine (ge)<|(QU)<|(QG)<|Qn ?_
 refine (Qcd) (fun hc2=>?_) fun hc2=>?_
 ·have hc2 : 64 < (sS d n l).length - 64 * k := by omega
  refine Qk<|(jm)<|(Q2 64)<|(g3)<|(gr)<|(j8)<|(Qm) ?_
  refine zz 0 64 (Uu 9) rfl rfl rfl rfl ⟨_, rfl⟩ (by omega) (by omega) rfl ?_
  refine (Qm) ?_
  refine z9 rfl (Un 120) (z0G (Zb h (ln - n) (sS d n l) k) (((sS d n l).drop (64 * k)).take 64) (ln - n + 64 * k + 64) (xW hSb _ _) (by rw [List.length_take]; omega)) rfl rfl ?_
  refine (Qf 0)<|(QtC 0 0)<|Qn<|(j0) ?_
  refine zz 64 ((sS d n l).drop (64 * k)).length (Uu 9) rfl rfl rfl ⟨_, rfl⟩ rfl (by omega) (by omega) rfl ?_
  refine z6 (congrArg sv (z6f _ k)) ?_
  refine (g3) ?_
  refine QzL ⟨k + 1, rfl, rfl, rfl, by omega, .inr (by omega)⟩ ⟨rfl, rfl, rfl, rfl, rfl, rfl, trivial⟩ ⟨rfl, rfl, rfl, trivial⟩ ?_
  omega
 ·have hc2 : ¬ 64 < (sS d n l).length - 64 * k := by omega
  refine (jn)<|(j8)<|(Qm)<|(QU)<|(Qf 73)<|(QV 3 0)<|(Qm)<|(QC hv)<|(Q3) ?_
  refine zC (cells 74 [pI .u32 8 (Zb h (ln - n) (sS d n l) k), pI .u8 64 (fun _ => 0), pV (.int .i64 (((sS d n l).drop (64 * k)).length : Nat)), pV (.int .i64 (ln + l.length : Nat))]) (Ub 113 rfl) (Uu 113 rfl) z3B rfl (by kernel_rfl) rfl ?_
  refine (QH 3) fun r4=>(QW 3)<|(gl)<|(Qf 8)<|(Qsa 0 64)<|(Qm) ?_
  refine z8z (i := 3) 1 (Uu 22) (Uz 5) rfl rfl (fun b hb => hSb b (List.mem_of_mem_drop hb)) rfl rfl (Nat.le_of_ble_eq_true rfl) (by decide) rfl ?_
  refine (gl)<|(QD 3) ?_
  refine z6 (Eq.trans (show _ = .agg (cells 74 [pI .u32 8 (Zb h (ln - n) (sS d n l) k), pI .u8 64 (fun i => if i < min ((sS d n l).drop (64 * k)).length 64 then ((sS d n l).drop (64 * k)).getD i 0 else 0), pV (.int .i64 (((sS d n l).drop (64 * k)).length : Nat)), pV (.int .i64 (ln + l.length : Nat))]) from rfl) (by rw [z7e _ (by omega), zgi (n := (sS d n l).length) (by omega) hf0_1])) ?_
  refine (QW 1)<|(gt) ?_
  exact ⟨_, _, rfl, yb 1, yt⟩
theorem Xd (l : LN) (hl : By l) (hn : l.length = 32) : Fp G 37 #[sv l] (.agg (arr .u8 32 (fun j => l.getD j 0))) := by
 refine Qf1 Tryz.func37 ?_
 refine (g4)<|(QH 0) fun r1=>(gl)<|(QH 1) fun r2=>(gl)<|(Qsa 0 32)<|(Qm) ?_
 refine YD (i := 1) (Uu 22) (Uz 5) rfl rfl hl rfl (by omega) rfl ?_
 refine (gl)<|(Qd 1) ?_
 refine (Aa (fun j hj => if_pos (by omega)))<|(Qt 0)<|Qn<|Qr ?_
 exact ⟨_, rfl, ya 0⟩
theorem z1R (h d : NN) (n ln : Nat) (hd : L8 64 d) (hl : ln ≤ 1073741824) (hok : okB n ln d = true) : Fp ((⟨1, arr .u32 8 ivf, 110⟩ : Blk) :: G) 79 #[.agg (cells 74 [pI .u32 8 h, pI .u8 64 d, pV (.int .i64 (n : Int)), pV (.int .i64 (ln : Int))])] (.tuple #[.agg (arr .u8 32 (Yq (sqz h ((List.range 64).map d) ln true))), ii 0]) := by
 obtain ⟨_, _, hn, _, _⟩ := Wi hok
 obtain ⟨w, hw⟩ : ∃ w, w = (sqz h ((List.range 64).map d) ln true) := ⟨_, rfl⟩
 have hwl : ∀ t, w t < 4294967296 := fun t => by rw [hw]; exact zjb _ _ _ _ _
 refine Qf2 Tryz.func79 ?_
 refine (g4)<|(Qh 0) fun r1=>(QH 1) fun r2=>(g3)<|Qs<|(gc) ?_
 refine (Ca (X6 h d n ln hn hl)) ?_
 refine (Ab (show (!okB n ln d) = false by rw [hok]; rfl))<|(gn)<|(g4)<|(Qf 8)<|(Qv 1 0)<|(QH 2) fun r3=>(Qt 2)<|(gl) ?_
 refine wB (v := sv []) rfl rfl ?_
 refine Qn<|Qs<|(gr)<|(j8)<|(Qsa 0 64)<|(QcS 2) ?_
 refine z6 (wm d 64) ?_
 refine (Qf 73)<|(QV 3 0) ?_
 refine (Ca (z1r h ((List.range 64).map d) ln (yv hd) (by simp))) ?_
 refine z6 (congrArg (fun f => Value.agg (arr .u32 8 f)) hw.symm) ?_
 refine (Qm)<|Qn<|Qb ?_
 refine QzK [(2, _), (3, _), (19, _)] [(0, _), (1, _), (2, _)] (fun kk E m => ∃ (i : Nat), kk = 8 - i ∧ E = [(5, sv (hol w i)), (20, ii i)] ∧ m = [] ∧ (i ≤ 8)) ⟨0, rfl, rfl, rfl, by omega⟩ ⟨rfl, rfl, rfl, rfl, rfl, trivial⟩ ⟨rfl, rfl, rfl, trivial⟩ ?_
 rintro kk E m ⟨i, rfl, rfl, rfl, hf0_0⟩
 simp only [zo, zu]
 have hhl := XF w i
 have hwi := hwl i
 refine (gq) ?_
 refine (Qcd) (fun hc1=>?_) fun hc1=>?_
 ·have hc1 : i < 8 := by omega
  refine Qk<|Qs<|Qb<|(g4)<|(QX)<|(g3)<|Qp<|(gb) ?_
  refine Wz (Uu 109) (Uu 31) rfl rfl rfl (by omega) ?_
  refine (Ca (xO (w i) 4 (by omega) (by decide))) ?_
  refine yn rfl rfl rfl (by rw [zL]; omega) ?_
  refine (jb) ?_
  refine QzL ⟨i + 1, rfl, rfl, rfl, by omega⟩ ⟨rfl, rfl, rfl, rfl, rfl, trivial⟩ ⟨rfl, rfl, rfl, trivial⟩ ?_
  omega
 ·have hz0 : i = 8 := by omega
  refine Qe<|(g6) ?_
  refine (Ca (Xd (hol w i) (z6o w i) (by omega))) ?_
  refine (Av (Value.agg (arr .u8 32 (fun j => (hol w i).getD j 0))))<|(Qt 1)<|(gt) ?_
  rw [show Yq (sqz h ((List.range 64).map d) ln true) = fun j => (hol w i).getD j 0 by rw [hz0, ← hw]; rfl]
  exact ⟨_, _, rfl, ya 1, yt⟩
abbrev IVB : Blk := ⟨1, arr .u32 8 ivf, 110⟩
theorem z3X : .agg (cells 74 [pI .u32 8 z1s, pI .u8 64 (fun _ => 0), pV (.int .i64 0), pV (.int .i64 0)]) = stB [] := by
 unfold stB cB
 rw [zbJ, zfy]; rfl
theorem z6t {G : Mem} (m : LN) (v : Value) (l : LN) (hm : By m) (hv : Sh (IVB :: G) v l) (hlb : By l) (hz : m.length + l.length ≤ 1073741824) :
  Fn Tryz.prog (IVB :: G) 77 #[stB m, v] (.tuple #[stB (m ++ l), ii 0]) := by
 have h := zal (G := G) (Vq m) (vm m) (yX m).length m.length v l hv hlb (fun j _ => Xm hm j) (by omega) (Xo m) hz
 rw [z52, z9f, z5M, z23, ← List.length_append] at h
 exact h
theorem z6A {G : Mem} (m : LN) (hm : By m) (hz : m.length ≤ 1073741824) : Fp (IVB :: G) 79 #[stB m] (.tuple #[.agg (arr .u8 32 (vW m)), ii 0]) := by
 have h := z1R (G := G) (Vq m) (vm m) (yX m).length m.length (fun j _ => Xm hm j) hz (Xo m)
 rw [← z0h hz] at h
 exact h
theorem zfc (l : LN) (hb : By l) (hz : l.length ≤ 1073741824) : Fp (IVB :: G) 45 #[sv l] (.agg (arr .u8 32 (vW l))) := by
 refine Qf1 Tryz.func45 ?_
 refine (g4)<|(QH 0) fun r1=>Qn<|Qs<|QR ⟨[], 1, [22], none, none⟩ ?_
 refine (Ca z2l) ?_
 refine z6 z3X ?_
 refine (Qm) ?_
 refine y3 1 (Uu 9) (Uu 22) (Uu 5) rfl hb (by simp only [maxLen]; omega) rfl rfl fun v1_1 oz1_1 ho1_1 => ?_
 refine zi rfl rfl (Un 77) (zf z8t (zH 1 rfl ⟨[], trivial⟩)) (z6t (G := oz1_1.toList) [] _ l (by simp) ((zG ho1_1).mono (fun x h => List.mem_cons_of_mem _ h)) hb (by simpa using hz)) rfl rfl ?_
 refine (Av (Value.tuple #[stB l, ii 0]))<|(gi)<|(QH 2) fun r3=>(QW 2)<|(j9)<|(QD 2) ?_
 refine (Ca (z6A l hb hz))<|(gi)<|(QH 3) fun r4=>(Qt 3)<|(j9)<|(Qd 3)<|(Qt 0)<|Qn<|Qr ?_
 exact ⟨_, rfl, ya 0⟩
theorem zeh (l : LN) (hb : By l) (hl : l.length ≤ 4611686018427387904) (hz : ¬ l.length ≤ 1073741824) : Fp (IVB :: G) 45 #[sv l] (.agg (arr .u8 32 (vW l))) := by
 refine Qf1 Tryz.func45 ?_
 refine (g4)<|(QH 0) fun r1=>Qn<|Qs<|QR ⟨[], 1, [22], none, none⟩ ?_
 refine (Ca z2l) ?_
 refine z6 z3X ?_
 refine (Qm) ?_
 refine y3 1 (Uu 9) (Uu 22) (Uu 5) rfl hb (by simp only [maxLen]; omega) rfl rfl fun v1_1 oz1_1 ho1_1 => ?_
 refine zi rfl rfl (Un 77) (zf z8t (zH 1 rfl ⟨[], trivial⟩)) (z5p (G := oz1_1.toList) (Vq []) (vm []) 0 0 _ l ((zG ho1_1).mono (fun x h => List.mem_cons_of_mem _ h)) (by decide) (by decide) (Xo []) (by omega) hl) rfl rfl ?_
 refine (gi)<|(QH 2) fun r3=>(QW 2)<|(j9)<|(QD 2) ?_
 refine z9 rfl (Un 79) (z1R (fun _ => 0) (fun _ => 0) 0 0 (fun _ _ => (show 0 < 256 by decide)) (by decide) ze9) rfl rfl ?_
 refine z6 (congrArg (fun f => Value.tuple #[.agg (arr .u8 32 f), ii 0]) (z7o hz).symm) ?_
 refine (gi)<|(QH 3) fun r4=>(Qt 3)<|(j9)<|(Qd 3)<|(Qt 0)<|Qn<|Qr ?_
 exact ⟨_, rfl, ya 0⟩
theorem vB {G : Mem} (l : LN) (hb : By l) (hl : l.length ≤ 4611686018427387904) : Fp (IVB :: G) 45 #[sv l] (.agg (arr .u8 32 (vW l))) := by
 by_cases hz : l.length ≤ 1073741824
 ·exact zfc l hb hz
 ·exact zeh l hb hl hz
theorem xK (f : NN) : Fp G 23 #[.agg (arr .u8 32 f)] (sv ((List.range 32).map f)) := by
 refine Qf1 Tryz.func23 ?_
 refine (g4)<|(Qh 0) fun r1=>?_
 refine wB (v := sv []) rfl rfl ?_
 refine (gl)<|(Qsa 0 32)<|(QcS 0) ?_
 refine z6 (wm f 32) ?_
 refine (gt) ?_
 exact ⟨_, rfl, yt⟩
theorem zf3 (k s : LN) (hk : By k) (hb : By s) (hkl : 64 < k.length) (hkm : k.length ≤ 4611686018427387904) (hs : s.length ≤ 2305843009213693952) : Fp (IVB :: G) 88 #[sv k, sv s] (.agg (arr .u8 32 (mac k s))) := by
 have hmk : z0H k = bsl k := if_pos hkl
 have hkle := Xt k
 rw [hmk] at hkle
 obtain ⟨P, hPe⟩ : ∃ P, P = Xl k := ⟨_, rfl⟩
 have hP : P.length = 64 := by rw [hPe]; exact z1d k
 have hPl : ∀ b ∈ P, b < 256 := by rw [hPe]; exact z9d hk
 refine Qf1 Tryz.func88 ?_
 refine (g4)<|(QH 0) fun r1=>Qn<|(ge)<|(QU)<|(QG)<|(Qat)<|(gu)<|(j0) ?_
 refine (Ca (vB k hk hkm)) ?_
 refine (Ca (xK _)) ?_
 refine (Av (sv (bsl k)))<|(go)<|(Qm)<|(QU) ?_
 refine yP (p := 64) rfl rfl rfl (by omega) (by omega) ?_
 refine (Ca (Xg (64 - (bsl k).length) (by omega))) ?_
 refine yn rfl rfl rfl (by rw [wC]; omega) ?_
 refine z6 (congrArg sv (show (bsl k) ++ zrs (64 - (bsl k).length) = P by rw [hPe, Xl, hmk])) ?_
 refine (g3)<|Qs<|QR ⟨[], 1, [22], none, none⟩<|(Qm) ?_
 refine y3 1 (Uu 9) (Uu 22) (Uu 5) rfl hPl (by simp only [maxLen]; omega) rfl rfl fun v2_1 oz2_1 ho2_1 => ?_
 refine (Qm) ?_
 refine y3 2 (Uu 9) (Uu 22) (Uu 5) rfl hPl (by simp only [maxLen]; omega) rfl rfl fun v2_2 oz2_2 ho2_2 => ?_
 refine (j3)<|(QC ho2_1.shows) ?_
 refine (Ai hP)<|(Qm)<|Qn<|Qb ?_
 refine QzK [(1, _), (4, _), (5, _), (6, _), (25, _)] [(0, _)] (fun kk E m => ∃ (i : Nat) (oa : Option Blk) (ob : Option Blk), kk = 64 - i ∧ E = [(26, ii i)] ∧ m = [(1, oa), (2, ob)] ∧ (i ≤ 64) ∧ (OwnS 5 1 v2_1 P.length ((xst P 54 i).map by8) (Option.toList oa)) ∧ (OwnS 5 1 v2_2 P.length ((xst P 92 i).map by8) (Option.toList ob))) ⟨0, oz2_1, oz2_2, rfl, rfl, rfl, by omega, zw ho2_1 rfl (by rw [← XV]), zw ho2_2 rfl (by rw [← XV])⟩ ⟨rfl, rfl, rfl, rfl, rfl, rfl, trivial⟩ ⟨rfl, rfl, rfl, trivial⟩ ?_
 rintro kk E m ⟨i, oa, ob, rfl, rfl, rfl, hf0_0, hf0_1, hf0_2⟩
 simp only [zo, zu]
 have hx1 := VI P 54 (i := i) (by omega)
 have hx2 := VI P 92 (i := i) (by omega)
 refine (gq) ?_
 refine (Qcd) (fun hc1=>?_) fun hc1=>?_
 ·have hc1 : i < 64 := by omega
  refine (jq)<|(go)<|(Qm) ?_
  refine yf hf0_1.shows (Uu 22) (Uz 5) rfl rfl (by omega) rfl ?_
  refine (QS) ?_
  refine zR hf0_1.shows (zH 1 rfl ⟨[], trivial⟩) (Uu 5) rfl rfl (z3F (by omega)) rfl ?_
  refine vu (q := 54) rfl rfl rfl  ?_
  refine yf hf0_1.shows (Uu 22) (Uz 5) rfl rfl (by omega) rfl ?_
  refine (QS) ?_
  refine Xq (i := 1) hf0_1 (Uz 5) rfl rfl rfl rfl (by omega) rfl fun oz3_3 ho3_3 => ?_
  refine Qn<|Qp<|(gb) ?_
  refine yf hf0_2.shows (Uu 22) (Uz 5) rfl rfl (by omega) rfl ?_
  refine (QS) ?_
  refine zR hf0_2.shows (zH 2 rfl ⟨[], trivial⟩) (Uu 5) rfl rfl (z3F (by omega)) rfl ?_
  refine vu (q := 92) rfl rfl rfl  ?_
  refine yf hf0_2.shows (Uu 22) (Uz 5) rfl rfl (by omega) rfl ?_
  refine (QS) ?_
  refine Xq (i := 2) hf0_2 (Uz 5) rfl rfl rfl rfl (by omega) rfl fun oz3_4 ho3_4 => ?_
  refine (jc) ?_
  refine QzL ⟨i + 1, _, _, rfl, rfl, rfl, by omega, zw (Xn ho3_3) rfl (by rw [XO P 54 (by omega)]), zw (Xn ho3_4) rfl (by rw [XO P 92 (by omega)])⟩ ⟨rfl, rfl, rfl, rfl, rfl, rfl, trivial⟩ ⟨rfl, rfl, rfl, trivial⟩ ?_
  omega
 ·have hz0 : i = 64 := by omega
  refine Qe<|(gr)<|(Qm) ?_
  refine zx (l := (xst P 92 i)) (zG hf0_2) (zH 2 rfl ⟨[], trivial⟩) (Uu 22) (Uu 5) (Uu 9) rfl rfl rfl ?_
  refine z6 (congrArg sv (show xst P 92 i = xm P 92 by rw [hz0, ← hP, VE])) ?_
  refine (Qm) ?_
  refine zx (l := (xst P 54 i)) (zG hf0_1) (zH 1 rfl ⟨[], trivial⟩) (Uu 22) (Uu 5) (Uu 9) rfl rfl rfl ?_
  refine z6 (congrArg sv (show xst P 54 i = xm P 54 by rw [hz0, ← hP, VE])) ?_
  refine (Qm) ?_
  refine yn rfl rfl rfl (by rw [yj]; omega) ?_
  refine (Ca (vB (xm P 54 ++ s) (fun b h => (List.mem_append.1 h).elim (XZ P 54 b) (hb b)) (by rw [List.length_append, yj]; omega))) ?_
  refine (Ca (xK _)) ?_
  refine (Av (sv (bsl (xm P 54 ++ s)))) ?_
  refine yn rfl rfl rfl (by rw [yj, XU]; omega) ?_
  refine z9 rfl (Un 45) (vB (xm P 92 ++ bsl (xm P 54 ++ s)) (fun b h => (List.mem_append.1 h).elim (XZ P 92 b) (z30 _ b)) (by rw [List.length_append, yj, XU]; omega)) rfl rfl ?_
  refine (Af (show vW (xm P 92 ++ bsl (xm P 54 ++ s)) = mac k s by rw [hPe]; rfl))<|(Qt 0)<|Qn<|Qr ?_
  exact ⟨_, rfl, ya 0⟩
theorem zan (k s : LN) (hk : By k) (hb : By s) (hkl : ¬ 64 < k.length) (hs : s.length ≤ 2305843009213693952) : Fp (IVB :: G) 88 #[sv k, sv s] (.agg (arr .u8 32 (mac k s))) := by
 have hmk : z0H k = k := if_neg hkl
 have hkle := Xt k
 rw [hmk] at hkle
 obtain ⟨P, hPe⟩ : ∃ P, P = Xl k := ⟨_, rfl⟩
 have hP : P.length = 64 := by rw [hPe]; exact z1d k
 have hPl : ∀ b ∈ P, b < 256 := by rw [hPe]; exact z9d hk
 refine Qf1 Tryz.func88 ?_
 refine (g4)<|(QH 0) fun r1=>Qn<|(ge)<|(QU)<|(QG)<|(gw)<|(g6)<|(Qm)<|(QU) ?_
 refine yP (p := 64) rfl rfl rfl (by omega) (by omega) ?_
 refine (Ca (Xg (64 - k.length) (by omega))) ?_
 refine yn rfl rfl rfl (by rw [wC]; omega) ?_
 refine z6 (congrArg sv (show k ++ zrs (64 - k.length) = P by rw [hPe, Xl, hmk])) ?_
 refine (g3)<|Qs<|QR ⟨[], 1, [22], none, none⟩<|(Qm) ?_
 refine y3 1 (Uu 9) (Uu 22) (Uu 5) rfl hPl (by simp only [maxLen]; omega) rfl rfl fun v2_1 oz2_1 ho2_1 => ?_
 refine (Qm) ?_
 refine y3 2 (Uu 9) (Uu 22) (Uu 5) rfl hPl (by simp only [maxLen]; omega) rfl rfl fun v2_2 oz2_2 ho2_2 => ?_
 refine (j3)<|(QC ho2_1.shows) ?_
 refine (Ai hP)<|(Qm)<|Qn<|Qb ?_
 refine QzK [(1, _), (4, _), (5, _), (6, _), (25, _)] [(0, _)] (fun kk E m => ∃ (i : Nat) (oa : Option Blk) (ob : Option Blk), kk = 64 - i ∧ E = [(26, ii i)] ∧ m = [(1, oa), (2, ob)] ∧ (i ≤ 64) ∧ (OwnS 5 1 v2_1 P.length ((xst P 54 i).map by8) (Option.toList oa)) ∧ (OwnS 5 1 v2_2 P.length ((xst P 92 i).map by8) (Option.toList ob))) ⟨0, oz2_1, oz2_2, rfl, rfl, rfl, by omega, zw ho2_1 rfl (by rw [← XV]), zw ho2_2 rfl (by rw [← XV])⟩ ⟨rfl, rfl, rfl, rfl, rfl, rfl, trivial⟩ ⟨rfl, rfl, rfl, trivial⟩ ?_
 rintro kk E m ⟨i, oa, ob, rfl, rfl, rfl, hf0_0, hf0_1, hf0_2⟩
 simp only [zo, zu]
 have hx1 := VI P 54 (i := i) (by omega)
 have hx2 := VI P 92 (i := i) (by omega)
 refine (gq) ?_
 refine (Qcd) (fun hc1=>?_) fun hc1=>?_
 ·have hc1 : i < 64 := by omega
  refine (jq)<|(go)<|(Qm) ?_
  refine yf hf0_1.shows (Uu 22) (Uz 5) rfl rfl (by omega) rfl ?_
  refine (QS) ?_
  refine zR hf0_1.shows (zH 1 rfl ⟨[], trivial⟩) (Uu 5) rfl rfl (z3F (by omega)) rfl ?_
  refine vu (q := 54) rfl rfl rfl  ?_
  refine yf hf0_1.shows (Uu 22) (Uz 5) rfl rfl (by omega) rfl ?_
  refine (QS) ?_
  refine Xq (i := 1) hf0_1 (Uz 5) rfl rfl rfl rfl (by omega) rfl fun oz3_3 ho3_3 => ?_
  refine Qn<|Qp<|(gb) ?_
  refine yf hf0_2.shows (Uu 22) (Uz 5) rfl rfl (by omega) rfl ?_
  refine (QS) ?_
  refine zR hf0_2.shows (zH 2 rfl ⟨[], trivial⟩) (Uu 5) rfl rfl (z3F (by omega)) rfl ?_
  refine vu (q := 92) rfl rfl rfl  ?_
  refine yf hf0_2.shows (Uu 22) (Uz 5) rfl rfl (by omega) rfl ?_
  refine (QS) ?_
  refine Xq (i := 2) hf0_2 (Uz 5) rfl rfl rfl rfl (by omega) rfl fun oz3_4 ho3_4 => ?_
  refine (jc) ?_
  refine QzL ⟨i + 1, _, _, rfl, rfl, rfl, by omega, zw (Xn ho3_3) rfl (by rw [XO P 54 (by omega)]), zw (Xn ho3_4) rfl (by rw [XO P 92 (by omega)])⟩ ⟨rfl, rfl, rfl, rfl, rfl, rfl, trivial⟩ ⟨rfl, rfl, rfl, trivial⟩ ?_
  omega
 ·have hz0 : i = 64 := by omega
  refine Qe<|(gr)<|(Qm) ?_
  refine zx (l := (xst P 92 i)) (zG hf0_2) (zH 2 rfl ⟨[], trivial⟩) (Uu 22) (Uu 5) (Uu 9) rfl rfl rfl ?_
  refine z6 (congrArg sv (show xst P 92 i = xm P 92 by rw [hz0, ← hP, VE])) ?_
  refine (Qm) ?_
  refine zx (l := (xst P 54 i)) (zG hf0_1) (zH 1 rfl ⟨[], trivial⟩) (Uu 22) (Uu 5) (Uu 9) rfl rfl rfl ?_
  refine z6 (congrArg sv (show xst P 54 i = xm P 54 by rw [hz0, ← hP, VE])) ?_
  refine (Qm) ?_
  refine yn rfl rfl rfl (by rw [yj]; omega) ?_
  refine (Ca (vB (xm P 54 ++ s) (fun b h => (List.mem_append.1 h).elim (XZ P 54 b) (hb b)) (by rw [List.length_append, yj]; omega))) ?_
  refine (Ca (xK _)) ?_
  refine (Av (sv (bsl (xm P 54 ++ s)))) ?_
  refine yn rfl rfl rfl (by rw [yj, XU]; omega) ?_
  refine z9 rfl (Un 45) (vB (xm P 92 ++ bsl (xm P 54 ++ s)) (fun b h => (List.mem_append.1 h).elim (XZ P 92 b) (z30 _ b)) (by rw [List.length_append, yj, XU]; omega)) rfl rfl ?_
  refine (Af (show vW (xm P 92 ++ bsl (xm P 54 ++ s)) = mac k s by rw [hPe]; rfl))<|(Qt 0)<|Qn<|Qr ?_
  exact ⟨_, rfl, ya 0⟩
theorem z0u (a b c : NN) : Instr.fill (fun i => some (i * 32, 32)) (arr .u8 96 fun _ => 0) [(0, .agg (arr .u8 32 a)), (1, .agg (arr .u8 32 b)), (2, .agg (arr .u8 32 c))] = some (arr .u8 96 (vT a b c)) := by kernel_rfl
theorem z38 {G : Mem} (k s : LN) (hk : By k) (hb : By s) (hkm : k.length ≤ 4611686018427387904) (hs : s.length ≤ 2305843009213693952) : Fp (IVB :: G) 88 #[sv k, sv s] (.agg (arr .u8 32 (mac k s))) := by
 by_cases h : 64 < k.length
 ·exact zf3 k s hk hb h hkm hs
 ·exact zan k s hk hb h hs
theorem z2b (c : NN) (s : LN) (hc : L8 32 c) (hb : By s) (hs : s.length ≤ 2305843009213693952) : Fp (IVB :: G) 47 #[.agg (arr .u8 32 c), sv s] (.agg (arr .u8 96 (vT (kA c s) (kB c s) (kC c s)))) := by
 have hTl := zjC c s
 have hTb := zis c s
 have hAb : ∀ b ∈ (List.range 32).map (kA c s), b < 256 := yv fun _ _ => Zf _ _ _
 have hBb : ∀ b ∈ (List.range 32).map (kB c s), b < 256 := yv fun _ _ => Zf _ _ _
 have hl3 : ∀ f : Nat → Nat, ((List.range 32).map f).length = 32 := fun f => by simp
 refine Qf1 Tryz.func47 ?_
 refine (g4)<|(Qh 0) fun r1=>(QH 1) fun r2=>(gl)<|(Qd 0) ?_
 refine (Ca (xK _))<|(Qm) ?_
 refine (Ca (z38 ((List.range 32).map c) s (yv hc) hb (by simp) hs)) ?_
 refine (Ca (xK _)) ?_
 refine (Av (sv (kT c s)))<|(go) ?_
 refine (Ca (z38 (kT c s) [1] hTb (by decide) (by omega) (by decide))) ?_
 refine (Av (Value.agg (arr .u8 32 (kA c s))))<|(QH 2) fun r3=>(Qt 2)<|Qn<|(g6)<|(Qd 2) ?_
 refine (Ca (xK _)) ?_
 refine yn (k := [2]) rfl rfl rfl (by simp) ?_
 refine (Ca (z38 (kT c s) ((List.range 32).map (kA c s) ++ [2]) hTb (z3J hAb (by decide)) (by omega) (by simp))) ?_
 refine (Av (Value.agg (arr .u8 32 (kB c s))))<|(QH 3) fun r4=>(Qt 3)<|(jf)<|(Qd 2)<|(Qd 3)<|(Qm)<|(Qd 3) ?_
 refine (Ca (xK _)) ?_
 refine yn (k := [3]) rfl rfl rfl (by simp) ?_
 refine (Ca (z38 (kT c s) ((List.range 32).map (kB c s) ++ [3]) hTb (z3J hBb (by decide)) (by omega) (by simp))) ?_
 refine (Av (Value.agg (arr .u8 32 (kC c s)))) ?_
 refine wD (arr .u8 96 (vT (kA c s) (kB c s) (kC c s))) (Ub 79 rfl) (Uu 79 rfl) (Uz 30 rfl) rfl (z0u (kA c s) (kB c s) (kC c s)) rfl ?_
 refine (ja)<|Qr ?_
 exact ⟨_, rfl, ya 1⟩
theorem ZJ (has : Bool) (k : NN) (n : Nat) (ch h : NN) (l : LN) (hb : By l) (hl : l.length ≤ 281474976710656) (hh : L8 32 h) : Fp (IVB :: G) 20 #[SV has k n ch h, sv l] (SV has k n ch (hx h l)) := by
 obtain ⟨g, hg⟩ : ∃ g, g = hx h l := ⟨_, rfl⟩
 rw [← hg]
 refine Qf1 Tryz.func20 ?_
 refine (g4)<|(Qh 0) fun r1=>(QH 1) fun r2=>(gl)<|(Qf 66)<|(Qv 4 0) ?_
 refine (Ca (xK h))<|(Qm) ?_
 refine yn rfl rfl rfl (by simp; omega) ?_
 refine (Ca (vB ((List.range 32).map h ++ l) (z8a (yv hh) hb) (by simp; omega))) ?_
 refine (Af (show vW ((List.range 32).map h ++ l) = g from hg.symm))<|(Qf 66)<|(QtC 0 4)<|Qn<|(gc) ?_
 refine (Av (SV has k n ch g))<|(QW 1)<|Qn<|Qr ?_
 exact ⟨_, rfl, yb 1⟩
theorem z1Q (has : Bool) (k : NN) (n : Nat) (ch h : NN) (l : LN) (hb : By l) (hl : l.length ≤ 281474976710656) (hc : L8 32 ch) : Fp (IVB :: G) 24 #[SV has k n ch h, sv l] (SV true (kB ch l) 0 (kA ch l) h) := by
 obtain ⟨fa, hfa⟩ : ∃ fa, fa = kA ch l := ⟨_, rfl⟩
 obtain ⟨fb, hfb⟩ : ∃ fb, fb = kB ch l := ⟨_, rfl⟩
 obtain ⟨fc, hfc⟩ : ∃ fc, fc = kC ch l := ⟨_, rfl⟩
 rw [← hfa, ← hfb]
 refine Qf1 Tryz.func24 ?_
 refine (g4)<|(Qh 0) fun r1=>(QH 1) fun r2=>(gl)<|(Qf 34)<|(Qv 3 0)<|(Qm) ?_
 refine (Ca (z2b ch l hc hb (by omega))) ?_
 refine z6 (show Value.agg (arr .u8 96 (vT (kA ch l) (kB ch l) (kC ch l))) = Value.agg (arr .u8 96 (vT fa fb fc)) by rw [hfa, hfb, hfc]) ?_
 refine (QH 2) fun r3=>(Qt 2)<|(gl)<|(QA 0 0)<|(Qls 2) ?_
 refine (Aa (z6y fa fb fc))<|(QA 32 1)<|(Qls 2) ?_
 refine (Aa (z6m fa fb fc)) ?_
 refine zC (cells 34 [pV (.bool true), pI .u8 32 fb, pV (u 0)]) (Ub 33 rfl) (Uu 33 rfl) vL rfl (by kernel_rfl) rfl ?_
 refine (Qf 66)<|(Qv 4 0) ?_
 refine zC (cells 98 [pV (.bool true), pI .u8 32 fb, pV (u 0), pI .u8 32 fa, pI .u8 32 h]) (Ub 35 rfl) (Uu 35 rfl) z0s rfl (by kernel_rfl) rfl ?_
 refine (QW 1)<|Qn<|Qr ?_
 exact ⟨_, rfl, yb 1⟩
theorem z7j (has : Bool) (k : NN) (n : Nat) (ch h : NN) (l : LN) (hb : By l) (hl : l.length ≤ 281474976710656) (hc : L8 32 ch) (hh : L8 32 h) : Fp (IVB :: G) 56 #[SV has k n ch h, sv l] (SV true (kC ch l) 0 (kA ch l) (hx h ((List.range 32).map (kB ch l)))) := by
 obtain ⟨fa, hfa⟩ : ∃ fa, fa = kA ch l := ⟨_, rfl⟩
 obtain ⟨fb, hfb⟩ : ∃ fb, fb = kB ch l := ⟨_, rfl⟩
 obtain ⟨fc, hfc⟩ : ∃ fc, fc = kC ch l := ⟨_, rfl⟩
 have hfb2 : ∀ j, j < 32 → fb j < 256 := fun j _ => by rw [hfb]; exact Zf _ _ _
 obtain ⟨g, hg⟩ : ∃ g, g = hx h ((List.range 32).map (kB ch l)) := ⟨_, rfl⟩
 rw [← hfa, ← hfc, ← hg]
 refine Qf1 Tryz.func56 ?_
 refine (g4)<|(Qh 0) fun r1=>(QH 1) fun r2=>(gl)<|(Qf 34)<|(Qv 3 0)<|(Qm) ?_
 refine (Ca (z2b ch l hc hb (by omega))) ?_
 refine z6 (show Value.agg (arr .u8 96 (vT (kA ch l) (kB ch l) (kC ch l))) = Value.agg (arr .u8 96 (vT fa fb fc)) by rw [hfa, hfb, hfc]) ?_
 refine (QH 2) fun r3=>(Qt 2)<|(jf)<|(QA 0 0)<|(Qls 2) ?_
 refine (Aa (z6y fa fb fc))<|(QA 64 2)<|(Qls 2) ?_
 refine (Aa (zeI fa fb fc)) ?_
 refine zC (cells 34 [pV (.bool true), pI .u8 32 fc, pV (u 0)]) (Ub 33 rfl) (Uu 33 rfl) vL rfl (by kernel_rfl) rfl ?_
 refine (QD 0)<|(QA 32 1)<|(Qls 2) ?_
 refine (Aa (z6m fa fb fc)) ?_
 refine (Ca (xK fb)) ?_
 refine (Ca (ZJ has k n ch h ((List.range 32).map fb) (yv hfb2) (by simp) hh)) ?_
 refine z6 (congrArg (fun f => SV has k n ch f) (show hx h ((List.range 32).map fb) = g by rw [hg, hfb])) ?_
 refine (QJ 4) ?_
 refine zC (cells 98 [pV (.bool true), pI .u8 32 fc, pV (u 0), pI .u8 32 fa, pI .u8 32 g]) (Ub 35 rfl) (Uu 35 rfl) z0s rfl (by kernel_rfl) rfl ?_
 refine (QW 1)<|Qn<|Qr ?_
 exact ⟨_, rfl, yb 1⟩
theorem z6a (o has : Bool) (k : NN) (n : Nat) (ch h : NN) (vt : Value) (hok : okC has k n = false) : Fp (IVB :: G) 33 #[.bool o, SV has k n ch h, vt] (.tuple #[(.agg (cells 98 [pV (.bool false), pI .u8 32 (fun _ => 0), pV (.int .u64 0), pI .u8 32 (fun _ => 0), pI .u8 32 (fun _ => 0)])), y4, ii 9]) := by
 refine Qf3 Tryz.func33 ?_
 refine (g4)<|(Qh 0) fun r1=>(QH 1) fun r2=>(g8)<|(gr)<|(Qm)<|(Qf 0)<|(QlK 0 0 3) ?_
 refine (Av (CV has k n))<|(Qf 66)<|(Qsa 0 32)<|(Qm) ?_
 refine zi rfl rfl (Un 55) z66 (zcG (G := []) o has k n _ _ hok) rfl rfl ?_
 refine (jk)<|(QH 2) fun r3=>(QW 2)<|(j3)<|(QN) ?_
 refine (Ab (decide_eq_true (by decide)))<|(gu)<|(g4) ?_
 refine zC (cells 98 [pV (.bool false), pI .u8 32 (fun _ => 0), pV (.int .u64 0), pI .u8 32 (fun _ => 0), pI .u8 32 (fun _ => 0)]) (Ub 35 rfl) (Uu 35 rfl) z0s rfl (by kernel_rfl) rfl ?_
 refine (Qm)<|(QW 1)<|(gy) ?_
 exact ⟨_, _, _, rfl, yb 1, yt, yt⟩
theorem z3W (o : Bool) (k : NN) (n : Nat) (ch h : NN) (vt : Value) (tx : LN) (hvt : Sh (IVB :: G) vt tx) (hok : okC false k n = true) (hl : 800 < tx.length) : Fp (IVB :: G) 33 #[.bool o, SV false k n ch h, vt] (.tuple #[(.agg (cells 98 [pV (.bool false), pI .u8 32 (fun _ => 0), pV (.int .u64 0), pI .u8 32 (fun _ => 0), pI .u8 32 (fun _ => 0)])), y4, ii 1]) := by
 refine Qf3 Tryz.func33 ?_
 refine (g4)<|(Qh 0) fun r1=>(QH 1) fun r2=>(g8)<|(gr)<|(Qm)<|(Qf 0)<|(QlK 0 0 3) ?_
 refine (Av (CV false k n))<|(Qf 66)<|(Qsa 0 32)<|(Qm) ?_
 refine zi rfl rfl (Un 55) za (zbH (G := IVB :: G) o k n _ _ tx hvt hok hl) rfl rfl ?_
 refine (jk)<|(QH 2) fun r3=>(QW 2)<|(j3)<|(QN) ?_
 refine (Ab (decide_eq_true (by decide)))<|(gu)<|(g4) ?_
 refine zC (cells 98 [pV (.bool false), pI .u8 32 (fun _ => 0), pV (.int .u64 0), pI .u8 32 (fun _ => 0), pI .u8 32 (fun _ => 0)]) (Ub 35 rfl) (Uu 35 rfl) z0s rfl (by kernel_rfl) rfl ?_
 refine (Qm)<|(QW 1)<|(gy) ?_
 exact ⟨_, _, _, rfl, yb 1, yt, yt⟩
theorem z2W (o : Bool) (k : NN) (n : Nat) (ch h : NN) (vt : Value) (hn : n = 18446744073709551615) : Fp (IVB :: G) 33 #[.bool o, SV true k n ch h, vt] (.tuple #[(.agg (cells 98 [pV (.bool false), pI .u8 32 (fun _ => 0), pV (.int .u64 0), pI .u8 32 (fun _ => 0), pI .u8 32 (fun _ => 0)])), y4, ii 11]) := by
 refine Qf3 Tryz.func33 ?_
 refine (g4)<|(Qh 0) fun r1=>(QH 1) fun r2=>(g8)<|(gr)<|(Qm)<|(Qf 0)<|(QlK 0 0 3) ?_
 refine (Av (CV true k n))<|(Qf 66)<|(Qsa 0 32)<|(Qm) ?_
 refine zi rfl rfl (Un 55) z66 (z9L (G := []) o k n _ _ hn) rfl rfl ?_
 refine (jk)<|(QH 2) fun r3=>(QW 2)<|(j3)<|(QN) ?_
 refine (Ab (decide_eq_true (by decide)))<|(gu)<|(g4) ?_
 refine zC (cells 98 [pV (.bool false), pI .u8 32 (fun _ => 0), pV (.int .u64 0), pI .u8 32 (fun _ => 0), pI .u8 32 (fun _ => 0)]) (Ub 35 rfl) (Uu 35 rfl) z0s rfl (by kernel_rfl) rfl ?_
 refine (Qm)<|(QW 1)<|(gy) ?_
 exact ⟨_, _, _, rfl, yb 1, yt, yt⟩
theorem wI (k : NN) (n : Nat) (ch h : NN) (vt : Value) (tx : LN) (hvt : Sh (IVB :: G) vt tx) (hn : n < 18446744073709551615) (e : Nat) (he : e ≠ 0) (hE : ∀ (G2 : Mem) (va : Value), Sh G2 va ((List.range 32).map h) → Sh G2 vt tx → Fp G2 97 #[.agg (arr .u8 32 k), .agg (arr .u8 12 (xy n)), va, vt] (.tuple #[y4, ii e])) : Fp (IVB :: G) 33 #[.bool true, SV true k n ch h, vt] (.tuple #[(.agg (cells 98 [pV (.bool false), pI .u8 32 (fun _ => 0), pV (.int .u64 0), pI .u8 32 (fun _ => 0), pI .u8 32 (fun _ => 0)])), y4, ii e]) := by
 refine Qf3 Tryz.func33 ?_
 refine (g4)<|(Qh 0) fun r1=>(QH 1) fun r2=>(g8)<|(gr)<|(Qm)<|(Qf 0)<|(QlK 0 0 3) ?_
 refine (Av (CV true k n))<|(Qf 66)<|(Qsa 0 32)<|(Qm) ?_
 refine zi rfl rfl (Un 55) (zf (ym 0 rfl ⟨[], trivial⟩) za) (z1C (G := ([⟨r1, cS true k n ch h, 35⟩] ++ (IVB :: G))) k n _ _ hn e he (hE ([⟨r1, cS true k n ch h, 35⟩] ++ (IVB :: G)) _ ((Z1 r1 4 35 h rfl (Nat.le_of_ble_eq_true rfl) (Nat.le_of_ble_eq_true rfl)).mono (fun x h => List.mem_append_left _ h)) (hvt.mono (fun x h => List.mem_append_right _ h)))) rfl rfl ?_
 refine (jk)<|(QH 2) fun r3=>(QW 2)<|(j3)<|(QN)<|(Qat)<|(gu)<|(g4) ?_
 refine zC (cells 98 [pV (.bool false), pI .u8 32 (fun _ => 0), pV (.int .u64 0), pI .u8 32 (fun _ => 0), pI .u8 32 (fun _ => 0)]) (Ub 35 rfl) (Uu 35 rfl) z0s rfl (by kernel_rfl) rfl ?_
 refine (Qm)<|(QW 1)<|(gy) ?_
 exact ⟨_, _, _, rfl, yb 1, yt, yt⟩
theorem X8 (k : NN) (n : Nat) (ch h : NN) (vt : Value) (tx : LN) (hvt : Sh (IVB :: G) vt tx) (htb : By tx) (hok : okC false k n = true) (hl : tx.length ≤ 800) (hh : L8 32 h) : Fp (IVB :: G) 33 #[.bool true, SV false k n ch h, vt] (.tuple #[SV false k n ch (hx h tx), vt, ii 0]) := by
 refine Qf3 Tryz.func33 ?_
 refine (g4)<|(Qh 0) fun r1=>(QH 1) fun r2=>(g8)<|(gr)<|(Qm)<|(Qf 0)<|(QlK 0 0 3) ?_
 refine (Av (CV false k n))<|(Qf 66)<|(Qsa 0 32)<|(Qm) ?_
 refine zi rfl rfl (Un 55) za (z75 (G := IVB :: G) true k n _ _ tx hvt hok hl) rfl rfl ?_
 refine (jk)<|(QH 2) fun r3=>(QW 2)<|(j3)<|(QN) ?_
 refine z6 (congrArg Value.bool (decide_eq_false (fun h => h rfl))) ?_
 refine (gn)<|(g4)<|(QD 2)<|(Qf 0)<|(QtK 0 0 3)<|Qn<|(ge)<|(gu)<|(gc) ?_
 refine (Av (SV false k n ch h))<|(Qm) ?_
 refine zx (l := tx) hvt za (Uu 22) (Uu 5) (Uu 9) rfl rfl rfl ?_
 refine (Ca (ZJ false k n ch h tx htb (by omega) hh))<|(Qm)<|(QW 1)<|(gy) ?_
 exact ⟨_, _, _, rfl, yb 1, yt, yt⟩
theorem Vs (k : NN) (n : Nat) (ch h : NN) (vt : Value) (tx out : LN) (hvt : Sh (IVB :: G) vt tx) (htb : By tx) (htl : tx.length ≤ 1000) (hol : out.length ≤ 1000) (hn : n < 18446744073709551615) (hh : L8 32 h) (hE : ∀ (G2 : Mem) (va : Value), Sh G2 va ((List.range 32).map h) → Sh G2 vt tx → Fq G2 [] 97 #[.agg (arr .u8 32 k), .agg (arr .u8 12 (xy n)), va, vt] (R2 5 out)) : Fq (IVB :: G) [] 33 #[.bool true, SV true k n ch h, vt] (fun v l1 nw => l1 = [] ∧ ∃ v', v = .tuple #[SV true k (n + 1) ch (hx h tx), v', ii 0] ∧ OwnS 5 1 v' out.length (out.map by8) nw) := by
 refine QfO Tryz.func33 ?_
 refine (g4)<|(Qh 0) fun r1=>(QH 1) fun r2=>(g8)<|Qs<|(Qq ⟨[], 4, [], none, none⟩)<|(Qm)<|(Qf 0)<|(QlK 0 0 3) ?_
 refine (Av (CV true k n))<|(Qf 66)<|(Qsa 0 32)<|(Qm) ?_
 refine zI 2 (fun v => .tuple #[CV true k (n + 1), v, ii 0]) rfl rfl (Un 55) (zf (ym 0 rfl ⟨[], trivial⟩) za) (z2T (G := ([⟨r1, cS true k n ch h, 35⟩] ++ (IVB :: G))) k n _ _ hn out (by simp only [maxLen]; omega) (hE ([⟨r1, cS true k n ch h, 35⟩] ++ (IVB :: G)) _ ((Z1 r1 4 35 h rfl (Nat.le_of_ble_eq_true rfl) (Nat.le_of_ble_eq_true rfl)).mono (fun x h => List.mem_append_left _ h)) (hvt.mono (fun x h => List.mem_append_right _ h)))) (by simp only [maxLen]; omega) (by rw [List.length_map, Nat.mul_one]) rfl rfl fun v1_1 oz1_1 ho1_1 => ?_
 refine (jk)<|(QH 3) fun r4=>(QW 3)<|(j3)<|(QN) ?_
 refine z6 (congrArg Value.bool (decide_eq_false (fun h => h rfl))) ?_
 refine (gn)<|(g4)<|(QD 3)<|(Qf 0)<|(QtK 0 0 3)<|Qn<|(ge)<|(gu)<|(gc) ?_
 refine (Av (SV true k (n + 1) ch h))<|(Qm) ?_
 refine zx (l := tx) hvt za (Uu 22) (Uu 5) (Uu 9) rfl rfl rfl ?_
 refine (Ca (ZJ true k (n + 1) ch h tx htb (by omega) hh))<|(Qm)<|(QW 1)<|(gy) ?_
 exact ⟨_, _, _, _, _, 2, rfl, yb 1, yt, yt, ho1_1, rfl⟩
theorem Yv {G : Mem} (hI : IVB ∈ G) (y : SY) (hy : okY y) (vt : Value) (tx : LN) (hvt : Sh G vt tx) (htb : By tx) (w : Nat × SY × LN) (hw : y8 y tx = w) :
  (w.1 ≠ 0 → Fn Tryz.prog G 33 #[.bool true, SVy y, vt] (.tuple #[SVy w.2.1, y4, ii w.1])) ∧ (w.1 = 0 → y.1 = true → Fx Tryz.prog G [] 33 #[.bool true, SVy y, vt] (fun v l1 nw => l1 = [] ∧ ∃ v', v = .tuple #[SVy w.2.1, v', ii 0] ∧ OwnS 5 1 v' w.2.2.length (w.2.2.map by8) nw)) ∧ (w.1 = 0 → y.1 = false → w.2.2 = tx ∧ Fn Tryz.prog G 33 #[.bool true, SVy y, vt] (.tuple #[SVy w.2.1, vt, ii 0])) := by
 obtain ⟨has, k, n, ch, h⟩ := y
 obtain ⟨hk, hn, hc, hh⟩ := hy
 have hv2 : Shows (IVB :: G) 1 vt tx.length (tx.map by8) := hvt.mono fun _ hx => List.mem_cons_of_mem _ hx
 have hk : ∀ j, j < 32 → k j < 256 := hk
 have hn : n < 18446744073709551616 := hn
 have hh : ∀ j, j < 32 → h j < 256 := hh
 by_cases hok : okC has k n = false
 ·obtain rfl : w = (9, SYZ, []) := by rw [← hw]; exact if_pos hok
  exact ⟨fun _ => (z6a (G := G) true has k n ch h vt hok).more (in1 hI), fun h0 => absurd h0 z6z, fun h0 => absurd h0 z6z⟩
 have hok2 : okC has k n = true := by simpa using hok
 cases has
 ·by_cases hl : 800 < tx.length
  ·obtain rfl : w = (1, SYZ, []) := by rw [← hw]; exact (if_neg hok).trans ((if_pos rfl).trans (if_pos hl))
   exact ⟨fun _ => (z3W (G := G) true k n ch h vt tx hv2 hok2 hl).more (in1 hI), fun h0 => absurd h0 Ww, fun h0 => absurd h0 Ww⟩
  ·obtain rfl : w = (0, Y5 (false, k, n, ch, h) tx, tx) := by rw [← hw]; exact (if_neg hok).trans ((if_pos rfl).trans (if_neg hl))
   exact ⟨fun h0 => absurd rfl h0, fun _ h0 => (by cases h0), fun _ _ => ⟨rfl, (X8 (G := G) k n ch h vt tx hv2 htb hok2 (by omega) hh).more (in1 hI)⟩⟩
 have ht : ¬ true = false := by decide
 by_cases hov : n = 18446744073709551615
 ·obtain rfl : w = (11, SYZ, []) := by rw [← hw]; exact (if_neg hok).trans ((if_neg ht).trans (if_pos hov))
  exact ⟨fun _ => (z2W (G := G) true k n ch h vt hov).more (in1 hI), fun h0 => absurd h0 V4, fun h0 => absurd h0 V4⟩
 have hn1 : n < 18446744073709551615 := by omega
 by_cases h2 : 816 < tx.length
 ·obtain rfl : w = (1, SYZ, []) := by rw [← hw]; exact (if_neg hok).trans ((if_neg ht).trans ((if_neg hov).trans (if_pos h2)))
  exact ⟨fun _ => (wI (G := G) k n ch h vt tx hv2 hn1 1 (by decide) (fun G2 va ha ht => z1E k (xy n) va vt (ky h) tx ha ht (by simp) h2)).more (in1 hI), fun h0 => absurd h0 Ww, fun h0 => absurd h0 Ww⟩
 by_cases h3 : tx.length < 16
 ·obtain rfl : w = (4, SYZ, []) := by rw [← hw]; exact (if_neg hok).trans ((if_neg ht).trans ((if_neg hov).trans ((if_neg h2).trans (if_pos h3))))
  exact ⟨fun _ => (wI (G := G) k n ch h vt tx hv2 hn1 4 (by decide) (fun G2 va ha ht => z0q k (xy n) va vt (ky h) tx ha ht (by simp) h3)).more (in1 hI), fun h0 => absurd h0 wn, fun h0 => absurd h0 wn⟩
 by_cases ho : Xa k (xy n) (ky h) tx
 ·obtain rfl : w = (0, (true, k, n + 1, ch, hx h tx), X0 k (xy n) tx) := by rw [← hw]; exact (if_neg hok).trans ((if_neg ht).trans ((if_neg hov).trans ((if_neg h2).trans ((if_neg h3).trans (if_pos ho)))))
  exact ⟨fun h0 => absurd rfl h0, fun _ _ => (Vs (G := G) k n ch h vt tx _ hv2 htb (by omega) (by rw [wh]; omega) hn1 hh (fun G2 va ha ht => z58 k (xy n) va vt (ky h) tx hk (VT n) ha ht (ZH hh) htb (by simp) (by omega) (by omega) ho)).wide (in1 hI), fun _ h0 => (by cases h0)⟩
 ·obtain rfl : w = (10, SYZ, []) := by rw [← hw]; exact (if_neg hok).trans ((if_neg ht).trans ((if_neg hov).trans ((if_neg h2).trans ((if_neg h3).trans (if_neg ho)))))
  exact ⟨fun _ => (wI (G := G) k n ch h vt tx hv2 hn1 10 (by decide) (fun G2 va ha ht => z1A k (xy n) va vt (ky h) tx hk (VT n) ha ht (ZH hh) htb (by simp) (by omega) (by omega) ho)).more (in1 hI), fun h0 => absurd h0 z71, fun h0 => absurd h0 z71⟩
theorem ze {b : List Nat} {l : Bool} {vp v0 v1 vt : Value} {fi : Bool} {tn : Int} {dd : Bool} {y : SY} {ow : Nat → Nat} {r : RS} {vk : Value} {us : Int} (h : xl vp v0 v1 vt vk) : ∀ v ∈ shC b l vp v0 v1 vt fi tn dd y ow r vk us, v.oneCell' = true := YO ⟨fun _ => rfl, fun _ => rfl, fun _ => h.1, fun _ => h.2.1, fun _ => h.2.2.1, fun _ => h.2.2.2.1, fun _ => rfl, fun _ => rfl, fun _ => rfl, fun _ => rfl, fun _ => rfl, fun _ => rfl, fun _ => rfl, fun _ => rfl, fun _ => rfl, fun _ => rfl, fun _ => rfl, fun _ => rfl, fun _ => rfl, fun _ => rfl, fun _ => rfl, fun _ => h.2.2.2.2, fun _ => rfl, trivial⟩
theorem Xu (hI : IVB ∈ G) (b : LN) (l : Bool) (vp v0 v1 vt : Value) (fi : Bool) (tn : Int) (dd : Bool) (y : SY) (r : RS) (ow : NN) (vk : Value) (us : Int) (f : NN) (ps : List (NN)) (hk : Shows G 32 vk ps.length (psC ps)) (h1 : xl vp v0 v1 vt vk) (hy : okY y) (hf : B32 f) : Fp G 32 #[.agg (shC b l vp v0 v1 vt fi tn dd y ow r vk us), .agg (arr .u8 32 f)] (.agg (shC b l vp v0 v1 vt fi tn dd (xr (npk ps) y f) ow r vk us)) := by
 obtain ⟨z, hz⟩ : ∃ z, z = xr (npk ps) y f := ⟨_, rfl⟩
 obtain ⟨y2, hy2⟩ : ∃ y2, y2 = Y5 y (ky f) := ⟨_, rfl⟩
 have hyb : okY y2 := by rw [hy2]; exact Yt hy _
 rw [← hz]
 refine Qf1 Tryz.func32 ?_
 refine (g4)<|(Qh 0) fun r1=>(Qh 1) fun r2=>(QH 2) fun r3=>(jf)<|(gz) ?_
 refine (Av (SVy y))<|(Qd 1) ?_
 refine (Ca (xK f)) ?_
 refine (Ca ((ZJ (G := G) y.1 y.2.1 y.2.2.1 y.2.2.2.1 y.2.2.2.2 (ky f) (ZH hf) (by simp) hy.2.2.2).more (in1 hI))) ?_
 refine z6 (show _ = SVy y2 by rw [hy2]; rfl) ?_
 refine (j1) ?_
 refine ye (c' := shC b l vp v0 v1 vt fi tn dd y2 ow r vk us) rfl ?_
 refine Qn<|(gs)<|(Qf 238)<|(QV 21 0)<|(QC hk)<|(QG)<|Qn ?_
 refine (Qcd) (fun hc0=>?_) fun hc0=>?_
 ·have hz3 : z = Xi y2 (ky f) := by rw [hz, xr, if_pos (by show npk ps = true; exact decide_eq_true (by omega)), ← hy2]
  refine (Qg)<|(gz) ?_
  refine (Av (SVy y2))<|(Qd 1) ?_
  refine (Ca (xK f)) ?_
  refine (Ca ((z1Q (G := G) y2.1 y2.2.1 y2.2.2.1 y2.2.2.2.1 y2.2.2.2.2 (ky f) (ZH hf) (by simp) hyb.2.2.1).more (in1 hI))) ?_
  refine z6 (show _ = SVy z by rw [hz3]; rfl) ?_
  refine (j1) ?_
  refine ye (c' := shC b l vp v0 v1 vt fi tn dd z ow r vk us) rfl ?_
  refine Qn<|(gc) ?_
  refine z4 (i := 2) (Uz 37) rfl rfl (z3 _ _) (ze h1) rfl z7 (.inl rfl) ?_
  refine Qn<|Qr ?_
  exact ⟨_, rfl, yb 2⟩
 ·obtain rfl : z = y2 := by rw [hz, xr, if_neg (by show ¬ npk ps = true; rw [npk, decide_eq_false (by omega)]; decide), ← hy2]
  refine Qk<|(gc) ?_
  refine z4 (i := 2) (Uz 37) rfl rfl (z3 _ _) (ze h1) rfl z7 (.inl rfl) ?_
  refine Qn<|Qr ?_
  exact ⟨_, rfl, yb 2⟩
theorem ZY (b : LN) (l : Bool) (vp v0 v1 vt : Value) (fi : Bool) (tn : Int) (dd : Bool) (y : SY) (r : RS) (ow : NN) (vk : Value) (us : Int) (e : Nat) (h1 : xl vp v0 v1 vt vk) : Fp G 35 #[.agg (shC b l vp v0 v1 vt fi tn dd y ow r vk us), ii e] (.tuple #[.agg (shC b l vp v0 v1 vt fi tn true y ow r vk us), y4, ii e]) := by
 refine Qf3 Tryz.func35 ?_
 refine (g4)<|(Qh 0) fun r1=>(QH 1) fun r2=>(g8)<|(g4)<|(Qf 8)<|(QtV 0 8)<|Qn<|(gc)<|(Qm) ?_
 refine z4 (i := 1) (Uz 37) rfl rfl (z3 _ _) (ze h1) rfl z7 (.inl rfl) ?_
 refine (gy) ?_
 exact ⟨_, _, _, rfl, yb 1, yt, yt⟩
theorem VH (a b : Nat) (ha : a < 2 ^ 256) (hb : b < 2 ^ 256) : Fp G 207 #[fe a, fe b] (.tuple #[fe ((a + b) % 2 ^ 256), u ((a + b) / 2 ^ 256)]) := by
 have hfin : car a b 4 = (a + b) / 2 ^ 256 := by
  unfold car
  rw [Nat.mod_eq_of_lt (show a < 2 ^ (64 * 4) from ha), Nat.mod_eq_of_lt (show b < 2 ^ (64 * 4) from hb)]
 refine Qf2 Tryz.func207 ?_
 refine (g4)<|(Qh 0) fun r1=>(Qh 1) fun r2=>(QH 2) fun r3=>(j9)<|(QH 3) fun r4=>Qn<|(gd)<|(jg) ?_
 refine Qz (fun kk E m => ∃ (k : Nat) (s : Nat → Nat), kk = 4 - k ∧ E = [(2, ptr r1), (3, ptr r2), (4, ptr r3), (6, ptr r4), (7, u (car a b k)), (9, ii k)] ∧ m = [(0, some ⟨r1, arr .u64 4 (wd a), 127⟩), (1, some ⟨r2, arr .u64 4 (wd b), 127⟩), (2, some ⟨r3, arr .u64 4 (fun _ => 0), 127⟩), (3, some ⟨r4, arr .u64 4 s, 127⟩)] ∧ (k ≤ 4) ∧ (∀ j, j < k → s j = wd (a + b) j)) ⟨0, fun _ => 0, rfl, rfl, rfl, by omega, fun j hj => absurd hj (Nat.not_lt_zero j)⟩ ⟨rfl, rfl, rfl, rfl, by rw [z5K]; rfl, rfl, trivial⟩ ⟨rfl, rfl, rfl, rfl, trivial⟩ ?_
 rintro kk E m ⟨k, s, rfl, rfl, rfl, hf0_0, hf0_1⟩
 have hcl := zdr a b k
 refine (gq) ?_
 refine (Qcd) (fun hc0=>?_) fun hc0=>?_
 ·refine Qk<|Qs<|Qb<|Qs<|Qp<|(Qm)<|(Qa)<|Qn<|(Qq ⟨[r4], 1, [], none, none⟩)<|(Qm)<|(Qm)<|(Qi) ?_
  refine y6 (i := 0) (Uu 31) rfl rfl rfl (zP (by omega)) rfl ⟨[3], rfl, rfl, trivial⟩ ?_
  refine (Qm)<|(Qi) ?_
  refine y6 (i := 1) (Uu 31) rfl rfl rfl (zP (by omega)) rfl ⟨[3], rfl, rfl, trivial⟩ ?_
  refine (Qm) ?_
  refine Z7 rfl (fun w => z2r _ _ _ (by omega) w) rfl rfl ?_
  refine (gi)<|(Qi) ?_
  refine xU (i := 3) (Uz 31) rfl rfl rfl (by omega) (.inr (by simp)) ?_
  refine (jb) ?_
  refine Qzr ⟨k + 1, upd s k _, rfl, rfl, rfl, by omega, yM hf0_1 (VZ a b k)⟩ ⟨rfl, rfl, rfl, rfl, by rw [← z59]; rfl, rfl, trivial⟩ ⟨rfl, rfl, rfl, rfl, trivial⟩ ?_
  omega
 ·refine Qe<|Qs<|Qp<|(Qd 3)<|(Qm)<|(Qt 2)<|(Qa)<|Qn<|Qr ?_
  have hk4 : k = 4 := by omega
  subst hk4
  rw [← hfin, z06 (fun j hj => (hf0_1 j hj).trans (Wp _ j hj).symm)]
  exact ⟨_, _, rfl, ya 2, yt⟩
theorem z01 (a b : Nat) (ha : a < 2 ^ 256) (hb : b < 2 ^ 256) : Fp G 208 #[fe a, fe b] (.tuple #[fe ((a + 2 ^ 256 - b) % 2 ^ 256), u (if a < b then 1 else 0)]) := by
 have hfin : bor a b 4 = if a < b then 1 else 0 := by
  unfold bor
  rw [Nat.mod_eq_of_lt (show a < 2 ^ (64 * 4) from ha), Nat.mod_eq_of_lt (show b < 2 ^ (64 * 4) from hb)]
 refine Qf2 Tryz.func208 ?_
 refine (g4)<|(Qh 0) fun r1=>(Qh 1) fun r2=>(QH 2) fun r3=>(j9)<|(QH 3) fun r4=>Qn<|(gd)<|(jg) ?_
 refine Qz (fun kk E m => ∃ (k : Nat) (s : Nat → Nat), kk = 4 - k ∧ E = [(2, ptr r1), (3, ptr r2), (4, ptr r3), (6, ptr r4), (7, u (bor a b k)), (9, ii k)] ∧ m = [(0, some ⟨r1, arr .u64 4 (wd a), 127⟩), (1, some ⟨r2, arr .u64 4 (wd b), 127⟩), (2, some ⟨r3, arr .u64 4 (fun _ => 0), 127⟩), (3, some ⟨r4, arr .u64 4 s, 127⟩)] ∧ (k ≤ 4) ∧ (∀ j, j < k → s j = wd (a + 2 ^ 256 - b) j)) ⟨0, fun _ => 0, rfl, rfl, rfl, by omega, fun j hj => absurd hj (Nat.not_lt_zero j)⟩ ⟨rfl, rfl, rfl, rfl, by rw [z5d]; rfl, rfl, trivial⟩ ⟨rfl, rfl, rfl, rfl, trivial⟩ ?_
 rintro kk E m ⟨k, s, rfl, rfl, rfl, hf0_0, hf0_1⟩
 have hcl := z7c a b k
 have hwl := y7 b k
 refine (gq) ?_
 refine (Qcd) (fun hc0=>?_) fun hc0=>?_
 ·refine Qk<|Qs<|Qb<|Qs<|Qp<|(Qm)<|(Qa)<|Qn<|(Qq ⟨[r4], 1, [], none, none⟩)<|(Qm)<|(Qm)<|(Qi) ?_
  refine y6 (i := 0) (Uu 31) rfl rfl rfl (zP (by omega)) rfl ⟨[3], rfl, rfl, trivial⟩ ?_
  refine (Qm)<|(Qi) ?_
  refine y6 (i := 1) (Uu 31) rfl rfl rfl (zP (by omega)) rfl ⟨[3], rfl, rfl, trivial⟩ ?_
  refine (Qm) ?_
  refine Z7 rfl (fun w => zir _ _ _ (by omega) (by omega) w) rfl rfl ?_
  refine (gi)<|(Qi) ?_
  refine xU (i := 3) (Uz 31) rfl rfl rfl (by omega) (.inr (by simp)) ?_
  refine (jb) ?_
  refine Qzr ⟨k + 1, upd s k _, rfl, rfl, rfl, by omega, yM hf0_1 (z4O a b k (by omega) (by omega))⟩ ⟨rfl, rfl, rfl, rfl, by rw [← z61]; rfl, rfl, trivial⟩ ⟨rfl, rfl, rfl, rfl, trivial⟩ ?_
  omega
 ·refine Qe<|Qs<|Qp<|(Qd 3)<|(Qm)<|(Qt 2)<|(Qa)<|Qn<|Qr ?_
  have hk4 : k = 4 := by omega
  subst hk4
  rw [← hfin, z06 (fun j hj => (hf0_1 j hj).trans (Wp _ j hj).symm)]
  exact ⟨_, _, rfl, ya 2, yt⟩
theorem XW : Fp G 209 #[] (fe PP) := by
 refine Qf1 Tryz.func209 ?_
 refine (g4)<|(QH 0) fun r1=>(gl) ?_
 refine zX (arr .u64 4 (wd PP)) (Ub 127 rfl) (Uu 127 rfl) (Uz 31 rfl) rfl (by kernel_rfl) rfl ?_
 refine (Qt 0)<|Qn<|Qr ?_
 exact ⟨_, rfl, ya 0⟩
theorem z49 (a n : Nat) (hn : n ≤ 1) : Fp G 210 #[fe a, u n] (fe (a * n)) := by
 refine Qf1 Tryz.func210 ?_
 refine (g4)<|(Qh 0) fun r1=>(QH 1) fun r2=>Qn<|(jg) ?_
 refine Qz (fun kk E m => ∃ (k : Nat) (s : Nat → Nat), kk = 4 - k ∧ E = [(2, ptr r1), (1, u n), (4, ptr r2), (6, ii k)] ∧ m = [(0, some ⟨r1, arr .u64 4 s, 127⟩), (1, some ⟨r2, arr .u64 4 (fun _ => 0), 127⟩)] ∧ (k ≤ 4) ∧ (∀ j, j < k → s j = wd (a * n) j) ∧ (∀ j, k ≤ j → s j = wd a j)) ⟨0, wd a, rfl, rfl, rfl, by omega, fun j hj => absurd hj (Nat.not_lt_zero j), fun j _ => rfl⟩ ⟨rfl, rfl, rfl, rfl, trivial⟩ ⟨rfl, rfl, trivial⟩ ?_
 rintro kk E m ⟨k, s, rfl, rfl, rfl, hf0_0, hf0_1, hf0_2⟩
 refine (gq) ?_
 refine (Qcd) (fun hc0=>?_) fun hc0=>?_
 ·refine Qk<|Qs<|Qb<|Qs<|Qp<|(Qm)<|(Qa)<|Qn<|Qp<|(Qm)<|(Qi)<|(Q1 0)<|(Qm) ?_
  refine z3I rfl rfl (by omega) ?_
  refine VO rfl rfl rfl  ?_
  refine (ji)<|(jc) ?_
  refine Qzr ⟨k + 1, upd s k _, rfl, rfl, rfl, by omega, yM hf0_1 (by rw [hf0_2 k (Nat.le_refl k)]; exact z55 a n k hn), Xk hf0_2⟩ ⟨rfl, rfl, rfl, rfl, trivial⟩ ⟨rfl, rfl, trivial⟩ ?_
  omega
 ·refine Qe<|Qs<|Qp<|(Qd 0)<|(Qt 1)<|Qn<|Qr ?_
  have hk4 : k = 4 := by omega
  subst hk4
  rw [z06 hf0_1]
  exact ⟨_, rfl, ya 1⟩
theorem wW (a : Nat) (ha : a < 2 ^ 256) : Fp G 214 #[fe a] (.bool (decide (a < PP))) := by
 have hPP := Yz
 refine Qf1 Tryz.func214 ?_
 refine (g4)<|(Qh 0) fun r1=>(g3)<|(gr)<|(Qd 0) ?_
 refine (Ca XW) ?_
 refine z9 rfl (Un 208) (z01 _ _ (by omega) (by omega)) rfl rfl ?_
 refine (gi)<|(QH 1) fun r2=>(Qt 1)<|(go)<|(Qc) ?_
 refine z6 (z9k _ _) ?_
 refine (gt) ?_
 exact ⟨_, rfl, yt⟩
theorem z3i (a ov : Nat) (ha : a < 2 ^ 256) (ho : ov < 2 ^ 50) : Fp G 180 #[fe a, u ov] (fe ((a + ov * 2 ^ 256) % PP)) := by
 have hPP := Yz
 have h255 : a / 2 ^ 255 ≤ 1 := by omega
 have h256 := Nat.mod_lt a (show 0 < 2 ^ 255 from Nat.pow_pos (by decide))
 obtain ⟨Y, hY⟩ : ∃ Y, Y = a % 2 ^ 255 + (2 * ov + a / 2 ^ 255) * 19 := ⟨_, rfl⟩
 have hY2 : Y < 2 ^ 256 := by omega
 obtain ⟨t, ht⟩ : ∃ t, t = (if Y < PP then 1 else 0) := ⟨_, rfl⟩
 have hb1 : t ≤ 1 := by rw [ht]; split <;> omega
 have hb2 : PP * t < 2 ^ 256 := by rw [hPP]; omega
 have hY3 : (a % 2 ^ 255 + (2 * ov + a / 2 ^ 255) * 19) % 2 ^ 256 = Y := by rw [← hY]; exact Nat.mod_eq_of_lt hY2
 have hm1 := Nat.mod_lt (Y + 2 ^ 256 - PP) (show 0 < 2 ^ 256 from Nat.pow_pos (by decide))
 refine Qf1 Tryz.func180 ?_
 refine (g4)<|(Qh 0) fun r1=>(QH 1) fun r2=>Qn<|(g6) ?_
 refine w7 (s := 1) rfl rfl rfl (by omega) ?_
 refine (Qj 3)<|(Q1 0)<|(Q8 63) ?_
 refine v4 rfl rfl rfl  ?_
 refine (Au (zi2 a ov ha ho))<|(j9)<|(Qj 3)<|(Q1 0)<|(Q9 9223372036854775807)<|(Qj 3)<|(Qu 0)<|(gl)<|(Qd 0) ?_
 refine z6 (z06 (z4t a ha)).symm ?_
 refine (Qm) ?_
 refine xh (q := 19) rfl rfl rfl  ?_
 refine (Au (Nat.mod_eq_of_lt (show (2 * ov + a / 2 ^ 255) * 19 < 18446744073709551616 by omega))) ?_
 refine zX (arr .u64 4 (upd (fun _ => 0) 0 ((2 * ov + a / 2 ^ 255) * 19))) (Ub 127 rfl) (Uu 127 rfl) (Uz 31 rfl) rfl rfl rfl ?_
 refine z6 (z0U ((2 * ov + a / 2 ^ 255) * 19) (by omega)) ?_
 refine z9 rfl (Un 207) (VH _ _ (by omega) (by omega)) rfl rfl ?_
 refine (Qm)<|(Qx) ?_
 refine z6 (congrArg fe hY3) ?_
 refine (Qx)<|(Qt 0)<|(jf)<|(Qd 0) ?_
 refine (Ca XW) ?_
 refine z9 rfl (Un 208) (z01 _ _ (by omega) (by omega)) rfl rfl ?_
 refine (gi) ?_
 refine (Au ht.symm)<|(QH 2) fun r3=>(Qt 2)<|(g3)<|(gr)<|(Qd 2) ?_
 refine (Ca XW)<|(Qm) ?_
 refine z9 rfl (Un 210) (z49 _ _ (by omega)) rfl rfl ?_
 refine z9 rfl (Un 207) (VH _ _ (by omega) (by omega)) rfl rfl ?_
 refine (gi)<|(Qt 2)<|(gl)<|(Qd 2)<|(ja)<|Qr ?_
 rw [← ze7 a ov Y ha ho hY, ← ht]
 exact ⟨_, rfl, ya 1⟩
theorem zhz (f : NN) (hf : L8 32 f) : Fp G 143 #[.agg (arr .u8 32 f)] (fe (vb f 32 % 2 ^ 255 % PP)) := by
 have hPP := Yz
 refine Qf1 Tryz.func143 ?_
 refine (g4)<|(Qh 0) fun r1=>(QH 1) fun r2=>(gl)<|(QH 2) fun r3=>Qn<|(jg) ?_
 refine Qz (fun kk E m => ∃ (k : Nat) (s : Nat → Nat), kk = 32 - k ∧ E = [(1, ptr r1), (2, ptr r2), (3, ptr r3), (5, ii k)] ∧ m = [(0, some ⟨r1, arr .u8 32 f, 23⟩), (1, some ⟨r2, arr .u64 4 (fun _ => 0), 127⟩), (2, some ⟨r3, arr .u64 4 s, 127⟩)] ∧ (k ≤ 32) ∧ (∀ j, j < 4 → s j = wd (vb f k) j)) ⟨0, fun _ => 0, rfl, rfl, rfl, by omega, fun j _ => by simp [vb, wd]⟩ ⟨rfl, rfl, rfl, rfl, trivial⟩ ⟨rfl, rfl, rfl, trivial⟩ ?_
 rintro kk E m ⟨k, s, rfl, rfl, rfl, hf0_0, hf0_1⟩
 refine (gq) ?_
 refine (Qcd) (fun hc0=>?_) fun hc0=>?_
 ·refine Qk<|Qs<|Qb<|Qs<|Qp<|(Qm)<|(Qa)<|Qn<|(Qg)<|(Qm)<|(Q5 8)<|(Qi)<|(Q1 2)<|(Qm)<|(Qi)<|(Q1 0) ?_
  refine xz (Uu 5) (Uu 31) rfl rfl rfl ?_
  refine (Qm)<|(Q4 8)<|(Q6 8) ?_
  refine w7 rfl rfl rfl (by omega) ?_
  refine v4 rfl rfl rfl  ?_
  refine (Qi)<|(Qu 2)<|(jc) ?_
  refine Qzr ⟨k + 1, upd s (k / 8) _, rfl, rfl, rfl, by omega, z22 f k s (by omega) hf hf0_1⟩ ⟨rfl, rfl, rfl, rfl, trivial⟩ ⟨rfl, rfl, rfl, trivial⟩ ?_
  omega
 ·have hk32 : k = 32 := by omega
  subst hk32
  have hA := zeM f s hf hf0_1
  refine (jn)<|(Qj 3)<|(Q1 2)<|(Q9 9223372036854775807)<|(Qj 3)<|(Qu 2)<|(gl)<|(Qd 2) ?_
  refine z6 hA ?_
  refine (Ca (z3i (vb f 32 % 2 ^ 255) 0 (by omega) (by omega)))<|(ja)<|Qr ?_
  rw [show vb f 32 % 2 ^ 255 % PP = (vb f 32 % 2 ^ 255 + 0 * 2 ^ 256) % PP by rw [Nat.zero_mul, Nat.add_zero]]
  exact ⟨_, rfl, ya 1⟩
theorem zfJ (a : Nat) (ha : a < PP) : Fp G 185 #[fe a] (.tuple #[z7b a, ii 0]) := by
 have hPP := Yz
 refine Qf2 Tryz.func185 ?_
 refine (g4)<|(Qh 0) fun r1=>(QH 1) fun r2=>(g3)<|(gs)<|(Qd 0) ?_
 refine z9 rfl (Un 214) (wW _ (by omega)) rfl rfl ?_
 refine (Q0)<|Qn ?_
 refine zh rfl ?_ ?_
 ·intro hc0
  simp [ha] at hc0
 ·intro hc0
  refine Qk<|(g4)<|(QH 2) fun r3=>Qn<|(jg) ?_
  refine Qz (fun kk E m => ∃ (k : Nat) (s : Nat → Nat), kk = 32 - k ∧ E = [(1, ptr r1), (2, ptr r2), (4, ptr r3), (10, ii k)] ∧ m = [(0, some ⟨r1, arr .u64 4 (wd a), 127⟩), (1, some ⟨r2, arr .u8 32 (fun _ => 0), 23⟩), (2, some ⟨r3, arr .u8 32 s, 23⟩)] ∧ (k ≤ 32) ∧ (∀ j, j < k → s j = bt a j)) ⟨0, fun _ => 0, rfl, rfl, rfl, by omega, fun j hj => absurd hj (Nat.not_lt_zero j)⟩ ⟨rfl, rfl, rfl, rfl, trivial⟩ ⟨rfl, rfl, rfl, trivial⟩ ?_
  rintro kk E m ⟨k, s, rfl, rfl, rfl, hf0_0, hf0_1⟩
  refine (gq) ?_
  refine (Qcd) (fun hc1=>?_) fun hc1=>?_
  ·refine Qk<|Qs<|Qb<|Qs<|Qp<|(Qm)<|(Qa)<|Qn<|Qp<|(Qm)<|(Qm)<|(Q5 8)<|(Qi)<|(Q1 0)<|(Qm)<|(Q4 8)<|(Q6 8) ?_
   refine YY rfl rfl rfl (by omega) ?_
   refine x8 (Uu 31) (Uu 5) rfl rfl rfl ?_
   refine (Qi)<|(Qu 2)<|(jc) ?_
   refine Qzr ⟨k + 1, upd s k _, rfl, rfl, rfl, by omega, yM hf0_1 (z40 a k)⟩ ⟨rfl, rfl, rfl, rfl, trivial⟩ ⟨rfl, rfl, rfl, trivial⟩ ?_
   omega
  ·refine Qe<|Qs<|Qp<|(Qd 2)<|(Qt 1)<|(Qa)<|Qn<|Qr ?_
   have hk32 : k = 32 := by omega
   subst hk32
   rw [← z4K hf0_1]
   exact ⟨_, _, rfl, ya 1, yt⟩
theorem z5r (x y : Nat) (hx : x < 18446744073709551616) (hy : y < 18446744073709551616) : Fp G 256 #[u x, u y] (.tuple #[u (x * y / 18446744073709551616), u (x * y % 18446744073709551616)]) := by
 refine Qf2 Tryz.func256 ?_
 refine (g4)<|(g8)<|(g6)<|(Q9 4294967295)<|(go)<|(Q8 32)<|(go)<|(Q9 4294967295)<|(go)<|(Q8 32)<|(go)<|(Qm) ?_
 refine xh rfl rfl rfl  ?_
 refine (go)<|(Qm) ?_
 refine xh rfl rfl rfl  ?_
 refine (Qm)<|(Q8 32)<|(Qau)<|(go)<|(Q9 4294967295)<|(go)<|(Q8 32)<|(go)<|(gb) ?_
 refine xh rfl rfl rfl  ?_
 refine (Qau)<|(go)<|(Qm) ?_
 refine xh rfl rfl rfl  ?_
 refine (Qm)<|(Qau)<|(Qm)<|(Q8 32)<|(Qau)<|(go)<|(Qm) ?_
 refine xh rfl rfl rfl  ?_
 refine (gt) ?_
 rw [← zcE x y hx hy]
 exact ⟨_, _, rfl, yt, yt⟩
theorem z8O (a b c d : Nat) (ha : a < 18446744073709551616) (hb : b < 18446744073709551616) (hc : c < 18446744073709551616) (hd : d < 18446744073709551616) : Fp G 249 #[u a, u b, u c, u d] (.tuple #[u ((a * b + c + d) % 18446744073709551616), u ((a * b + c + d) / 18446744073709551616)]) := by
 have hp := z3o ha hb
 refine Qf2 Tryz.func249 ?_
 refine (g4)<|(g8)<|(g6)<|(Qm) ?_
 refine z9 rfl (Un 256) (z5r _ _ (by omega) (by omega)) rfl rfl ?_
 refine (gi)<|(g8)<|(g6)<|(Qm) ?_
 refine Z7 rfl (fun w => z2r _ _ 0 (by omega) w) rfl rfl ?_
 refine (gi)<|(g8)<|(g6)<|(Qm)<|(Qau)<|(go)<|(Qm) ?_
 refine Z7 rfl (fun w => z2r _ _ 0 (by omega) w) rfl rfl ?_
 refine (gi)<|(g8)<|(g6)<|(gb)<|(Qau)<|(gy) ?_
 rw [← z9c, ← z9x _ _ _ hp hc hd]
 exact ⟨_, _, rfl, yt, yt⟩
theorem zhg (a b : Nat) (ha : a < 2 ^ 256) (hb : b < 2 ^ 256) : Fp G 248 #[fe a, fe b] (.agg (arr .u64 8 (wd (a * b)))) := by
 refine Qf1 Tryz.func248 ?_
 refine (g4)<|(Qh 0) fun r1=>(Qh 1) fun r2=>(QH 2) fun r3=>(gl)<|(QH 3) fun r4=>Qn<|(jg) ?_
 refine Qz (fun kk E m => ∃ (k : Nat) (s : Nat → Nat), kk = 4 - k ∧ E = [(2, ptr r1), (3, ptr r2), (4, ptr r3), (5, ptr r4), (9, ii k)] ∧ m = [(0, some ⟨r1, arr .u64 4 (wd a), 127⟩), (1, some ⟨r2, arr .u64 4 (wd b), 127⟩), (2, some ⟨r3, arr .u64 8 (fun _ => 0), 300⟩), (3, some ⟨r4, arr .u64 8 s, 300⟩)] ∧ (k ≤ 4) ∧ (∀ t, t < 8 → s t = wd (a % 2 ^ (64 * k) * b) t)) ⟨0, fun _ => 0, rfl, rfl, rfl, by omega, fun t _ => by simp [Nat.mod_one, wd]⟩ ⟨rfl, rfl, rfl, rfl, rfl, trivial⟩ ⟨rfl, rfl, rfl, rfl, trivial⟩ ?_
 rintro kk E m ⟨k, s, rfl, rfl, rfl, hf0_0, hf0_1⟩
 refine (gq) ?_
 refine (Qcd) (fun hc0=>?_) fun hc0=>?_
 ·refine Qk<|Qs<|Qb<|Qs<|Qp<|(Qm)<|(Qa)<|Qn<|Qs<|Qp<|(Qa)<|Qn<|Qs<|Qs<|Qp<|(Qm)<|Qn<|Qb ?_
  refine Qz (fun kk E m => ∃ (j : Nat) (s2 : Nat → Nat), kk = 4 - j ∧ E = [(2, ptr r1), (3, ptr r2), (4, ptr r3), (5, ptr r4), (9, ii k), (6, ii k), (7, u (wO a b k j)), (12, ii j)] ∧ m = [(0, some ⟨r1, arr .u64 4 (wd a), 127⟩), (1, some ⟨r2, arr .u64 4 (wd b), 127⟩), (2, some ⟨r3, arr .u64 8 (fun _ => 0), 300⟩), (3, some ⟨r4, arr .u64 8 s2, 300⟩)] ∧ (j ≤ 4) ∧ (∀ t, t < k + j → s2 t = wd (wS a b k j) t) ∧ (∀ t, k + j ≤ t → t < 8 → s2 t = wd (a % 2 ^ (64 * k) * b) t)) ⟨0, s, rfl, rfl, rfl, by omega, fun t ht => (hf0_1 t (by omega)).trans (z8s a b k t (by omega)).symm, fun t _ ht => hf0_1 t ht⟩ ⟨rfl, rfl, rfl, rfl, rfl, rfl, by rw [z3Q]; rfl, rfl, trivial⟩ ⟨rfl, rfl, rfl, rfl, trivial⟩ ?_
  rintro kk E m ⟨j, s2, rfl, rfl, rfl, hf1_0, hf1_1, hf1_2⟩
  have ha1 := y7 a k
  have hb1 := y7 b j
  have ho1 := ziD a b k j (by omega)
  have hs2 : (j : Int) < 4 → s2 (k + j) = wd (a % 2 ^ (64 * k) * b) (k + j) := fun h => hf1_2 (k + j) (by omega) (by omega)
  refine (gq) ?_
  refine (Qcd) (fun hc1=>?_) fun hc1=>?_
  ·refine Qk<|Qs<|Qb<|Qs<|Qp<|(Qm)<|(Qa)<|Qn<|(Qg)<|(Qm)<|(Qm)<|(Q3)<|(Qm)<|(Qi)<|(Q1 0)<|(Qm)<|(Qi)<|(Q1 1)<|(Qm)<|(Qm)<|(Q3)<|(Qi)<|(Q1 3)<|(Qm) ?_
   have hs3 := y7 (a % 2 ^ (64 * k) * b) (k + j); have hs4 := hs2 hc1
   refine z9 rfl (Un 249) (z8O _ _ _ _ (by omega) (by omega) (by omega) (by omega)) rfl rfl ?_
   refine (gi)<|(Qi)<|(Qu 3)<|(jb) ?_
   refine Qzr ⟨j + 1, upd s2 (k + j) _, rfl, rfl, rfl, by omega, by rw [hs2 hc1]; exact z2x hf1_1, fun t h1 h2 => by rw [← hf1_2 t (by omega) h2]; unfold upd; rw [if_neg (by omega)]⟩ ⟨rfl, rfl, rfl, rfl, rfl, rfl, by rw [← z47, ← hs2 hc1]; rfl, rfl, trivial⟩ ⟨rfl, rfl, rfl, rfl, trivial⟩ ?_
   omega
  ·have hj4 : j = 4 := by omega
   subst hj4
   refine Qe<|(j0)<|(Q2 4)<|(Qm)<|(Qi)<|(Qu 3)<|(jc) ?_
   refine Qzr ⟨k + 1, upd s2 (k + 4) _, rfl, rfl, rfl, by omega, za1 hb hf1_1 hf1_2⟩ ⟨rfl, rfl, rfl, rfl, rfl, trivial⟩ ⟨rfl, rfl, rfl, rfl, trivial⟩ ?_
   omega
 ·refine Qe<|Qs<|Qp<|(Qd 3)<|(Qt 2)<|Qn<|Qr ?_
  have hk4 : k = 4 := by omega
  subst hk4
  rw [Nat.mod_eq_of_lt (show a < 2 ^ (64 * 4) from ha)] at hf0_1
  rw [← zg hf0_1]
  exact ⟨_, rfl, ya 2⟩
theorem X7 (a b : Nat) (ha : a < 2 ^ 256) (hb : b < 2 ^ 256) : Fp G 233 #[fe a, fe b] (fe (a * b % PP)) := by
 refine Qf1 Tryz.func233 ?_
 refine (g4)<|(Qh 0) fun r1=>(Qh 1) fun r2=>(QH 2) fun r3=>(gl)<|(jo) ?_
 refine z9 rfl (Un 248) (zhg _ _ (by omega) (by omega)) rfl rfl ?_
 refine (QH 3) fun r4=>(Qt 3)<|(gl)<|(QH 4) fun r5=>Qn<|(gd)<|(jg) ?_
 refine Qz (fun kk E m => ∃ (k : Nat) (s : Nat → Nat), kk = 4 - k ∧ E = [(4, ptr r3), (5, ptr r4), (6, ptr r5), (7, u (pS (a * b) k / 2 ^ (64 * k))), (12, ii k)] ∧ m = [(0, some ⟨r1, arr .u64 4 (wd a), 127⟩), (1, some ⟨r2, arr .u64 4 (wd b), 127⟩), (2, some ⟨r3, arr .u64 4 (fun _ => 0), 127⟩), (3, some ⟨r4, arr .u64 8 (wd (a * b)), 300⟩), (4, some ⟨r5, arr .u64 4 s, 127⟩)] ∧ (k ≤ 4) ∧ (∀ t, t < k → s t = wd (pS (a * b) k) t)) ⟨0, fun _ => 0, rfl, rfl, rfl, by omega, fun t ht => absurd ht (Nat.not_lt_zero t)⟩ ⟨rfl, rfl, rfl, by rw [zhu]; rfl, rfl, trivial⟩ ⟨rfl, rfl, rfl, rfl, rfl, trivial⟩ ?_
 rintro kk E m ⟨k, s, rfl, rfl, rfl, hf0_0, hf0_1⟩
 have hw1 := y7 (a * b) k
 have hw2 := y7 (a * b) (k + 4)
 have hov := zl2 (a * b) k
 refine (gq) ?_
 refine (Qcd) (fun hc0=>?_) fun hc0=>?_
 ·refine Qk<|Qs<|Qb<|Qs<|Qp<|(Qm)<|(Qa)<|Qn<|(Qq ⟨[r5], 1, [], none, none⟩)<|(Qm)<|(Qm)<|(Q2 4)<|(Qi) ?_
  refine y6 (i := 3) (Uu 31) rfl rfl rfl (zP (by omega)) rfl ⟨[4], rfl, rfl, trivial⟩ ?_
  refine (Qm)<|(Qi) ?_
  refine y6 (i := 3) (Uu 31) rfl rfl rfl (zP (by omega)) rfl ⟨[4], rfl, rfl, trivial⟩ ?_
  refine (Qm) ?_
  refine z9 rfl (Un 249) (z8O _ 38 _ _ (by omega) (by omega) (by omega) (by omega)) rfl rfl ?_
  refine (gi)<|(Qi) ?_
  refine xU (i := 4) (Uz 31) rfl rfl rfl (by omega) (.inr (by simp)) ?_
  refine (jb) ?_
  refine Qzr ⟨k + 1, upd s k _, rfl, rfl, rfl, by omega, zj0 hf0_1⟩ ⟨rfl, rfl, rfl, by rw [← zkd]; rfl, rfl, trivial⟩ ⟨rfl, rfl, rfl, rfl, rfl, trivial⟩ ?_
  omega
 ·have hk4 : k = 4 := by omega
  subst hk4
  refine (jn)<|(Qd 4) ?_
  refine z6 (z06 (fun j hj => (hf0_1 j hj).trans (Wp _ j hj).symm)).symm ?_
  refine (Qm) ?_
  refine z9 rfl (Un 180) (z3i _ _ (Nat.mod_lt _ (Nat.pow_pos (by decide))) (by omega)) rfl rfl ?_
  refine (Qt 2)<|Qn<|Qr ?_
  rw [← ziG (a * b) (zbF ha hb)]
  exact ⟨_, rfl, ya 2⟩
theorem z7Z (a : Nat) (ha : a < 2 ^ 256) : Fp G 215 #[fe a] (fe (a ^ EE % PP)) := by
 have hPP := Yz
 refine Qf1 Tryz.func215 ?_
 refine (g4)<|(Qh 0) fun r1=>(QH 1) fun r2=>(gl) ?_
 refine zX (arr .u64 4 (upd (fun _ => 0) 0 1)) (Ub 127 rfl) (Uu 127 rfl) (Uz 31 rfl) rfl rfl rfl ?_
 refine z6 (z0U 1 (by decide)) ?_
 refine (QH 2) fun r3=>(Qt 2)<|Qn<|Qs<|(gd)<|Qb ?_
 refine Qz (fun kk E m => ∃ (k : Nat) (pw : Nat), kk = 255 - k ∧ E = [(1, ptr r1), (2, ptr r2), (3, ptr r3), (4, .int .i64 (254 - (k : Nat)))] ∧ m = [(0, some ⟨r1, arr .u64 4 (wd a), 127⟩), (1, some ⟨r2, arr .u64 4 (fun _ => 0), 127⟩), (2, some ⟨r3, arr .u64 4 (wd pw), 127⟩)] ∧ (k ≤ 255) ∧ (pw = a ^ (EE / 2 ^ (255 - k)) % PP)) ⟨0, 1, rfl, rfl, rfl, by omega, zbN a⟩ ⟨rfl, rfl, rfl, rfl, trivial⟩ ⟨rfl, rfl, rfl, trivial⟩ ?_
 rintro kk E m ⟨k, pw, rfl, rfl, rfl, hf0_0, hf0_1⟩
 have hpw : pw < 2 ^ 256 := by have := Nat.mod_lt (a ^ (EE / 2 ^ (255 - k))) (show 0 < PP by decide); omega
 have hq := Nat.mod_lt (pw * pw) (show 0 < PP by decide)
 refine (ge)<|(QE)<|Qn ?_
 refine (Qcd) (fun hc0=>?_) fun hc0=>?_
 ·refine Qk<|Qs<|Qb<|Qs<|Qp<|(Qd 2)<|(Qd 2) ?_
  refine z9 rfl (Un 233) (X7 _ _ (by omega) (by omega)) rfl rfl ?_
  refine (Qt 2)<|Qn ?_
  rcases (show (k = 252 ∨ k = 250) ∨ ¬ (k = 252 ∨ k = 250) by omega) with (h252 | h250) | hno
  ·skip
   refine (g6)<|(QN)<|(Qaf)<|(Qm)<|(g5)<|(QF)<|(gn)<|(j0) ?_
   refine xH (q := 1) rfl rfl rfl (by omega) (by omega) ?_
   refine (g3) ?_
   refine Qzr ⟨k + 1, _, rfl, rfl, rfl, by omega, z4l a k pw (by omega) (.inl h252) hf0_1⟩ ⟨rfl, rfl, rfl, congrArg (fun z => some (Value.int .i64 z)) (show (254 - (k : Int) - 1) = 254 - ((k + 1 : Nat) : Int) by omega), trivial⟩ ⟨rfl, rfl, rfl, trivial⟩ ?_
   omega
  ·skip
   refine (g6)<|(QN)<|(Qat)<|(gm)<|(QN)<|(Qaf)<|(QT)<|(gn)<|(j0) ?_
   refine xH (q := 1) rfl rfl rfl (by omega) (by omega) ?_
   refine (g3) ?_
   refine Qzr ⟨k + 1, _, rfl, rfl, rfl, by omega, z4l a k pw (by omega) (.inr h250) hf0_1⟩ ⟨rfl, rfl, rfl, congrArg (fun z => some (Value.int .i64 z)) (show (254 - (k : Int) - 1) = 254 - ((k + 1 : Nat) : Int) by omega), trivial⟩ ⟨rfl, rfl, rfl, trivial⟩ ?_
   omega
  ·skip
   refine (g6)<|(QN)<|(Qat)<|(gm)<|(QN)<|(Qat)<|(QT)<|(gu)<|Qp<|(Qd 2)<|(Qd 0) ?_
   refine z9 rfl (Un 233) (X7 _ _ (by omega) (by omega)) rfl rfl ?_
   refine (Qt 2)<|Qn<|(j0) ?_
   refine xH (q := 1) rfl rfl rfl (by omega) (by omega) ?_
   refine (g3) ?_
   refine Qzr ⟨k + 1, _, rfl, rfl, rfl, by omega, zfU a k pw (by omega) hno hf0_1⟩ ⟨rfl, rfl, rfl, congrArg (fun z => some (Value.int .i64 z)) (show (254 - (k : Int) - 1) = 254 - ((k + 1 : Nat) : Int) by omega), trivial⟩ ⟨rfl, rfl, rfl, trivial⟩ ?_
   omega
 ·have hk : k = 255 := by omega
  subst hk
  refine (jn)<|(Qd 2)<|(ja)<|Qr ?_
  rw [zfl] at hf0_1
  rw [← hf0_1]
  exact ⟨_, rfl, ya 1⟩
theorem zjp (a b : Nat) (ha : a < PP) (hb : b < PP) : Fp G 231 #[fe a, fe b] (.tuple #[fe ((a + b) % PP), ii 0]) := by
 have hPP := Yz
 refine Qf2 Tryz.func231 ?_
 refine (g4)<|(Qh 0) fun r1=>(Qh 1) fun r2=>(QH 2) fun r3=>(g3)<|(gs)<|(Qd 0) ?_
 refine z9 rfl (Un 214) (wW _ (by omega)) rfl rfl ?_
 refine (Q0) ?_
 refine (Ab (show (!decide (a < PP)) = false by simp [ha]))<|(g7)<|(Qd 1)<|(Qy) ?_
 refine z9 rfl (Un 214) (wW _ (by omega)) rfl rfl ?_
 refine (Qy)<|(Q0) ?_
 refine (Ab (show (!decide (b < PP)) = false by simp [hb]))<|(QF)<|(gn)<|(g4)<|(jo) ?_
 refine z9 rfl (Un 207) (VH _ _ (by omega) (by omega)) rfl rfl ?_
 refine (Qm)<|(Qx) ?_
 refine z6 (congrArg fe (Nat.mod_eq_of_lt (show a + b < 2 ^ 256 by omega))) ?_
 refine (Qx)<|(QH 3) fun r4=>(Qt 3)<|(j9)<|(Qd 3) ?_
 refine z9 rfl (Un 180) (z3i _ 0 (by omega) (by omega)) rfl rfl ?_
 refine (Qt 2)<|(gt) ?_
 rw [show (a + b) % PP = (a + b + 0 * 2 ^ 256) % PP by rw [Nat.zero_mul, Nat.add_zero]]
 exact ⟨_, _, rfl, ya 2, yt⟩
theorem zjN (a b : Nat) (ha : a < PP) (hb : b < PP) : Fp G 232 #[fe a, fe b] (.tuple #[fe ((a + PP - b) % PP), ii 0]) := by
 have hPP := Yz
 obtain ⟨t, ht⟩ : ∃ t, t = (if a < b then 1 else 0) := ⟨_, rfl⟩
 have hb1 : t ≤ 1 := by rw [ht]; split <;> omega
 have hb2 : PP * t < 2 ^ 256 := by rw [hPP]; omega
 have hm1 := Nat.mod_lt (a + 2 ^ 256 - b) (show 0 < 2 ^ 256 from Nat.pow_pos (by decide))
 refine Qf2 Tryz.func232 ?_
 refine (g4)<|(Qh 0) fun r1=>(Qh 1) fun r2=>(QH 2) fun r3=>(g3)<|(gs)<|(Qd 0) ?_
 refine z9 rfl (Un 214) (wW _ (by omega)) rfl rfl ?_
 refine (Q0) ?_
 refine (Ab (show (!decide (a < PP)) = false by simp [ha]))<|(g7)<|(Qd 1)<|(Qy) ?_
 refine z9 rfl (Un 214) (wW _ (by omega)) rfl rfl ?_
 refine (Qy)<|(Q0) ?_
 refine (Ab (show (!decide (b < PP)) = false by simp [hb]))<|(QF)<|(gn)<|(g4)<|(jo) ?_
 refine z9 rfl (Un 208) (z01 _ _ (by omega) (by omega)) rfl rfl ?_
 refine (gi) ?_
 refine (Au ht.symm)<|(QH 3) fun r4=>(Qt 3)<|(g3)<|(gr)<|(Qd 3) ?_
 refine (Ca XW)<|(Qm) ?_
 refine z9 rfl (Un 210) (z49 _ _ (by omega)) rfl rfl ?_
 refine z9 rfl (Un 207) (VH _ _ (by omega) (by omega)) rfl rfl ?_
 refine (gi)<|(Qt 3)<|(gl)<|(Qd 3)<|(Qt 2)<|(gt) ?_
 rw [← zh4 a b ha hb, ← ht]
 exact ⟨_, _, rfl, ya 2, yt⟩
theorem zjV (a b : Nat) (ha : a < PP) (hb : b < PP) : Fp G 216 #[fe a, fe b] (.tuple #[fe (a * b % PP), ii 0]) := by
 have hPP := Yz
 refine Qf2 Tryz.func216 ?_
 refine (g4)<|(Qh 0) fun r1=>(Qh 1) fun r2=>(QH 2) fun r3=>(g3)<|(gs)<|(Qd 0) ?_
 refine z9 rfl (Un 214) (wW _ (by omega)) rfl rfl ?_
 refine (Q0) ?_
 refine (Ab (show (!decide (a < PP)) = false by simp [ha]))<|(g7)<|(Qd 1)<|(Qy) ?_
 refine z9 rfl (Un 214) (wW _ (by omega)) rfl rfl ?_
 refine (Qy)<|(Q0) ?_
 refine (Ab (show (!decide (b < PP)) = false by simp [hb]))<|(QF)<|(gn)<|(g4)<|(jo) ?_
 refine z9 rfl (Un 233) (X7 _ _ (by omega) (by omega)) rfl rfl ?_
 refine (Qt 2)<|(gt) ?_
 exact ⟨_, _, rfl, ya 2, yt⟩
theorem zjk (a : Nat) (ha : a < PP) : Fp G 184 #[fe a] (.tuple #[fe (a ^ EE % PP), ii 0]) := by
 have hPP := Yz
 refine Qf2 Tryz.func184 ?_
 refine (g4)<|(Qh 0) fun r1=>(QH 1) fun r2=>(g3)<|(gs)<|(Qd 0) ?_
 refine z9 rfl (Un 214) (wW _ (by omega)) rfl rfl ?_
 refine (Q0) ?_
 refine (Ab (show (!decide (a < PP)) = false by simp [ha]))<|(gn)<|(g4)<|(Qd 0) ?_
 refine z9 rfl (Un 215) (z7Z _ (by omega)) rfl rfl ?_
 refine (Qt 1)<|(gt) ?_
 exact ⟨_, _, rfl, ya 1, yt⟩
theorem XD (a b : Nat) (ha : a < PP) (hb : b < PP) : Fp G 212 #[fe a, fe b] (fe ((a + b) % PP)) := by
 refine Qf1 Tryz.func212 ?_
 refine (g4)<|(Qh 0) fun r1=>(Qh 1) fun r2=>(QH 2) fun r3=>(gl)<|(jo) ?_
 refine (Ca (zjp a b ha hb))<|(gi)<|(QH 3) fun r4=>(Qt 3)<|(j9)<|(Qd 3)<|(Qt 2)<|Qn<|Qr ?_
 exact ⟨_, rfl, ya 2⟩
theorem Xr (a b : Nat) (ha : a < PP) (hb : b < PP) : Fp G 213 #[fe a, fe b] (fe ((a + PP - b) % PP)) := by
 refine Qf1 Tryz.func213 ?_
 refine (g4)<|(Qh 0) fun r1=>(Qh 1) fun r2=>(QH 2) fun r3=>(gl)<|(jo) ?_
 refine (Ca (zjN a b ha hb))<|(gi)<|(QH 3) fun r4=>(Qt 3)<|(j9)<|(Qd 3)<|(Qt 2)<|Qn<|Qr ?_
 exact ⟨_, rfl, ya 2⟩
theorem Z9 (a b : Nat) (ha : a < PP) (hb : b < PP) : Fp G 186 #[fe a, fe b] (fe (a * b % PP)) := by
 refine Qf1 Tryz.func186 ?_
 refine (g4)<|(Qh 0) fun r1=>(Qh 1) fun r2=>(QH 2) fun r3=>(gl)<|(jo) ?_
 refine (Ca (zjV a b ha hb))<|(gi)<|(QH 3) fun r4=>(Qt 3)<|(j9)<|(Qd 3)<|(Qt 2)<|Qn<|Qr ?_
 exact ⟨_, rfl, ya 2⟩
theorem ZS (a : Nat) (ha : a < PP) : Fp G 211 #[fe a] (fe (a * a % PP)) := by
 refine Qf1 Tryz.func211 ?_
 refine (g4)<|(Qh 0) fun r1=>(QH 1) fun r2=>(gl)<|(Qd 0)<|(Qd 0) ?_
 refine (Ca (Z9 a a ha ha))<|(ja)<|Qr ?_
 exact ⟨_, rfl, ya 1⟩
theorem zfh (p : Nat × Nat) (h : Lt2 p) : Fp G 182 #[ptv p] (ptv (Wa p)) := by
 obtain ⟨pl, hpl⟩ : ∃ pl, pl = (p.1 + p.2) % PP * ((p.1 + p.2) % PP) % PP := ⟨_, rfl⟩
 have hplL : pl < PP := by rw [hpl]; exact Nat.mod_lt _ (by decide)
 obtain ⟨mi, hmi⟩ : ∃ mi, mi = (p.1 + PP - p.2) % PP * ((p.1 + PP - p.2) % PP) % PP := ⟨_, rfl⟩
 have hmiL : mi < PP := by rw [hmi]; exact Nat.mod_lt _ (by decide)
 obtain ⟨re, hre⟩ : ∃ re, re = (pl + PP - mi) % PP := ⟨_, rfl⟩
 have hreL : re < PP := by rw [hre]; exact Nat.mod_lt _ (by decide)
 refine Qf1 Tryz.func182 ?_
 refine (g4)<|(Qh 0) fun r1=>(QH 1) fun r2=>(gl)<|(QA 0 0)<|(Qls 0) ?_
 refine z6 (zee _) ?_
 refine (QA 4 1)<|(Qls 0) ?_
 refine z6 (zcR _) ?_
 refine (Ca (XD _ _ h.1 h.2)) ?_
 refine z9 rfl (Un 211) (ZS _ (Nat.mod_lt _ (by decide))) rfl rfl ?_
 refine z6 (congrArg fe hpl.symm) ?_
 refine (QH 2) fun r3=>(Qt 2)<|(gl)<|(QA 0 0)<|(Qls 0) ?_
 refine z6 (zee _) ?_
 refine (QA 4 1)<|(Qls 0) ?_
 refine z6 (zcR _) ?_
 refine (Ca (Xr _ _ h.1 h.2)) ?_
 refine z9 rfl (Un 211) (ZS _ (Nat.mod_lt _ (by decide))) rfl rfl ?_
 refine z6 (congrArg fe hmi.symm) ?_
 refine (QH 3) fun r4=>(Qt 3)<|(gl)<|(Qd 2)<|(Qd 3) ?_
 refine (Ca (Xr _ _ hplL hmiL)) ?_
 refine z6 (congrArg fe hre.symm) ?_
 refine (QH 4) fun r5=>(Qt 4)<|(jf)<|(Qd 2)<|(Qd 3) ?_
 refine (Ca (Z9 _ _ hplL hmiL)) ?_
 refine z6 (congrArg fe (zkS h.2 hpl hmi)) ?_
 refine (Qd 4)<|(Qd 2) ?_
 refine zX (arr .u64 4 (upd (fun _ => 0) 0 121665)) (Ub 127 rfl) (Uu 127 rfl) (Uz 31 rfl) rfl rfl rfl ?_
 refine z6 (z0U 121665 (by decide)) ?_
 refine (Qd 4) ?_
 refine z9 rfl (Un 186) (Z9 _ _ (by decide) hreL) rfl rfl ?_
 refine z9 rfl (Un 212) (XD _ _ hplL (Nat.mod_lt _ (by decide))) rfl rfl ?_
 refine z9 rfl (Un 186) (Z9 _ _ hreL (Nat.mod_lt _ (by decide))) rfl rfl ?_
 refine z6 (congrArg fe (zl7 h.2 hpl hmi hre)) ?_
 refine wD _ (Ub 186 rfl) (Uu 186 rfl) (Uz 127 rfl) rfl (VV _ _) rfl ?_
 refine (ja)<|Qr ?_
 exact ⟨_, rfl, ya 1⟩
theorem zgA (L : (Nat × Nat) × (Nat × Nat)) (U : Nat) (h : Lt2 L.1 ∧ Lt2 L.2) (hU : U < PP) : Fp G 183 #[rgv L, fe U] (ptv (vi U L.1 L.2)) := by
 obtain ⟨a, ha⟩ : ∃ a, a = (L.2.1 + PP - L.2.2) % PP * ((L.1.1 + L.1.2) % PP) % PP := ⟨_, rfl⟩
 have haL : a < PP := by rw [ha]; exact Nat.mod_lt _ (by decide)
 obtain ⟨b, hb⟩ : ∃ b, b = (L.2.1 + L.2.2) % PP * ((L.1.1 + PP - L.1.2) % PP) % PP := ⟨_, rfl⟩
 have hbL : b < PP := by rw [hb]; exact Nat.mod_lt _ (by decide)
 refine Qf1 Tryz.func183 ?_
 refine (g4)<|(Qh 0) fun r1=>(Qh 1) fun r2=>(QH 2) fun r3=>(jf)<|(QA 8 1)<|(QA 8 0)<|(Qls 0) ?_
 refine z6 (zl8 _) ?_
 refine (QA 8 1)<|(QA 12 1)<|(Qls 0) ?_
 refine z6 (zil _) ?_
 refine (Ca (Xr _ _ h.2.1 h.2.2))<|(QA 0 0)<|(QA 0 0)<|(Qls 0) ?_
 refine z6 (zkR _) ?_
 refine (QA 0 0)<|(QA 4 1)<|(Qls 0) ?_
 refine z6 (zkV _) ?_
 refine (Ca (XD _ _ h.1.1 h.1.2)) ?_
 refine z9 rfl (Un 186) (Z9 _ _ (Nat.mod_lt _ (by decide)) (Nat.mod_lt _ (by decide))) rfl rfl ?_
 refine z6 (congrArg fe ha.symm) ?_
 refine (QH 3) fun r4=>(Qt 3)<|(jf)<|(QA 8 1)<|(QA 8 0)<|(Qls 0) ?_
 refine z6 (zl8 _) ?_
 refine (QA 8 1)<|(QA 12 1)<|(Qls 0) ?_
 refine z6 (zil _) ?_
 refine (Ca (XD _ _ h.2.1 h.2.2))<|(QA 0 0)<|(QA 0 0)<|(Qls 0) ?_
 refine z6 (zkR _) ?_
 refine (QA 0 0)<|(QA 4 1)<|(Qls 0) ?_
 refine z6 (zkV _) ?_
 refine (Ca (Xr _ _ h.1.1 h.1.2)) ?_
 refine z9 rfl (Un 186) (Z9 _ _ (Nat.mod_lt _ (by decide)) (Nat.mod_lt _ (by decide))) rfl rfl ?_
 refine z6 (congrArg fe hb.symm) ?_
 refine (QH 4) fun r5=>(Qt 4)<|(jf)<|(Qd 3)<|(Qd 4) ?_
 refine (Ca (XD _ _ haL hbL)) ?_
 refine z9 rfl (Un 211) (ZS _ (Nat.mod_lt _ (by decide))) rfl rfl ?_
 refine (Qd 1)<|(Qd 3)<|(Qd 4) ?_
 refine (Ca (Xr _ _ haL hbL)) ?_
 refine z9 rfl (Un 211) (ZS _ (Nat.mod_lt _ (by decide))) rfl rfl ?_
 refine z9 rfl (Un 186) (Z9 _ _ hU (Nat.mod_lt _ (by decide))) rfl rfl ?_
 refine wD _ (Ub 186 rfl) (Uu 186 rfl) (Uz 127 rfl) rfl (VV _ _) rfl ?_
 refine z6 (congrArg ptv ((zgT h.1.2 h.2.2 U ha hb).symm.trans (z1c h.1.2 h.2.2 U))) ?_
 refine (Qt 2)<|Qn<|Qr ?_
 exact ⟨_, rfl, ya 2⟩
theorem z5G (L : (Nat × Nat) × (Nat × Nat)) (n : Nat) (hn : n ≤ 1) : Fp G 181 #[rgv L, u n] (rgv (swp n L)) := by
 refine Qf1 Tryz.func181 ?_
 refine (g4)<|(Qh 0) fun r1=>(QH 1) fun r2=>Qn<|(jg) ?_
 refine Qz (fun kk E m => ∃ (k : Nat) (s : Nat → Nat), kk = 2 - k ∧ E = [(1, u n), (2, ptr r1), (4, ptr r2), (8, ii k)] ∧ m = [(0, some ⟨r1, arr .u64 16 s, 188⟩), (1, some ⟨r2, arr .u64 16 (fun _ => 0), 188⟩)] ∧ (k ≤ 2) ∧ (∀ t, t < 16 → s t = swt n (rgf L) (4 * k) t)) ⟨0, rgf L, rfl, rfl, rfl, by omega, fun t _ => (zcg n (rgf L) t).symm⟩ ⟨rfl, rfl, rfl, rfl, trivial⟩ ⟨rfl, rfl, trivial⟩ ?_
 rintro kk E m ⟨k, s, rfl, rfl, rfl, hf0_0, hf0_1⟩
 refine (gq) ?_
 refine (Qcd) (fun hc0=>?_) fun hc0=>?_
 ·refine Qk<|Qs<|Qb<|Qs<|Qp<|(Qm)<|(Qa)<|Qn<|Qs<|Qp<|(Qm)<|Qn<|Qb ?_
  refine Qz (fun kk E m => ∃ (j : Nat) (s2 : Nat → Nat), kk = 4 - j ∧ E = [(1, u n), (2, ptr r1), (4, ptr r2), (8, ii k), (5, ii k), (11, ii j)] ∧ m = [(0, some ⟨r1, arr .u64 16 s2, 188⟩), (1, some ⟨r2, arr .u64 16 (fun _ => 0), 188⟩)] ∧ (j ≤ 4) ∧ (∀ t, t < 16 → s2 t = swt n (rgf L) (4 * k + j) t)) ⟨0, s, rfl, rfl, rfl, by omega, hf0_1⟩ ⟨rfl, rfl, rfl, rfl, rfl, rfl, trivial⟩ ⟨rfl, rfl, trivial⟩ ?_
  rintro kk E m ⟨j, s2, rfl, rfl, rfl, hf1_0, hf1_1⟩
  refine (gq) ?_
  refine (Qcd) (fun hc1=>?_) fun hc1=>?_
  ·refine Qk<|Qs<|Qb<|Qs<|Qp<|(Qm)<|(Qa)<|Qn<|Qs<|(Qg)<|(Qm)<|(Qm)<|(QA 0 0)<|(QB (4 * k))<|(QB (4 * k + j))<|(Q1 0)<|(Qm)<|(Qm)<|(QA 8 1)<|(QB (8 + 4 * k))<|(QB (8 + (4 * k + j)))<|(Q1 0) ?_
   refine z2X rfl rfl rfl  ?_
   refine (Qm) ?_
   refine z3I rfl rfl (by omega) ?_
   refine VO rfl rfl rfl  ?_
   refine (g3)<|(gr)<|(gb)<|(QA 0 0)<|(QB (4 * k))<|(QB (4 * k + j))<|(Q1 0)<|(Qm) ?_
   refine z2X rfl rfl rfl  ?_
   refine (QA 0 0)<|(QB (4 * k))<|(QB (4 * k + j))<|(Qu 0)<|Qn<|(Qg)<|(gb)<|(QA 8 1)<|(QB (8 + 4 * k))<|(QB (8 + (4 * k + j)))<|(Q1 0)<|(Qm) ?_
   refine z2X rfl rfl rfl  ?_
   refine (QA 8 1)<|(QB (8 + 4 * k))<|(QB (8 + (4 * k + j)))<|(Qu 0)<|(jc) ?_
   refine Qzr ⟨j + 1, upd (upd s2 (4 * k + j) _) (8 + (4 * k + j)) _, rfl, rfl, rfl, by omega, zaF (c := 4 * k + j) hn (ziO L) (by omega) hf1_1 _ _ _ rfl rfl rfl⟩ ⟨rfl, rfl, rfl, rfl, rfl, rfl, trivial⟩ ⟨rfl, rfl, trivial⟩ ?_
   omega
  ·have hj4 : j = 4 := by omega
   subst hj4
   refine Qe<|(gk) ?_
   refine Qzr ⟨k + 1, s2, rfl, rfl, rfl, by omega, by rw [show 4 * (k + 1) = 4 * k + 4 by omega]; exact hf1_1⟩ ⟨rfl, rfl, rfl, rfl, trivial⟩ ⟨rfl, rfl, trivial⟩ ?_
   omega
 ·have hk2 : k = 2 := by omega
  subst hk2
  refine (jn)<|(Qd 0)<|(ja)<|Qr ?_
  rw [rgv, ← zg8 hf0_1]
  exact ⟨_, rfl, ya 1⟩
theorem zaA (f : NN) (hf : L8 32 f) : Fp G 147 #[.agg (arr .u8 32 f)] (.bool (!zO 32 f (fun _ => 0))) := by
 refine Qf1 Tryz.func147 ?_
 refine (g4)<|(Qh 0) fun r1=>(g3)<|(gd)<|(gs)<|(Qd 0)<|(Qm)<|Qn<|Qb ?_
 refine Qz (fun kk E m => ∃ (k : Nat) (s : Nat), kk = 32 - k ∧ E = [(3, by8 s), (6, .agg (arr .u8 32 f)), (7, ii k)] ∧ m = [(0, some ⟨r1, arr .u8 32 f, 30⟩)] ∧ (k ≤ 32) ∧ (s < 256) ∧ (s = 0 ↔ ∀ j, j < k → f j = 0)) ⟨0, 0, rfl, rfl, rfl, by omega, by decide, ⟨fun _ j hj => absurd hj (Nat.not_lt_zero j), fun _ => rfl⟩⟩ ⟨rfl, rfl, rfl, trivial⟩ ⟨rfl, trivial⟩ ?_
 rintro kk E m ⟨k, s, rfl, rfl, rfl, hf0_0, hf0_1, hf0_2⟩
 refine (gq) ?_
 refine (Qcd) (fun hc0=>?_) fun hc0=>?_
 ·refine Qk<|Qs<|Qb<|Qs<|Qp<|(QX)<|(Qa)<|Qn<|Qp<|(Qm)<|(Qm) ?_
  refine z6w rfl rfl rfl  ?_
  refine (jb) ?_
  refine Qzr ⟨k + 1, _, rfl, rfl, rfl, by omega, Nat.mod_lt _ (by decide), z6p hf0_1 (hf k (by omega)) hf0_2⟩ ⟨rfl, rfl, rfl, trivial⟩ ⟨rfl, trivial⟩ ?_
  omega
 ·have hk : k = 32 := by omega
  subst hk
  refine Qe<|(g6)<|(QN) ?_
  refine (Ab (zar hf0_2))<|(gt) ?_
  exact ⟨_, rfl, yt⟩
theorem zbk (p : Nat × Nat) (h : Lt2 p) : Fp G 146 #[ptv p] (z7b (wJ p.1 (p.2 ^ EE % PP))) := by
 refine Qf1 Tryz.func146 ?_
 refine (g4)<|(Qh 0) fun r1=>(QH 1) fun r2=>(gl)<|(QA 4 1)<|(Qls 0) ?_
 refine z6 (zcR _) ?_
 refine (Ca (zjk _ h.2))<|(gi)<|(QH 2) fun r3=>(Qt 2)<|(j9)<|(QA 0 0)<|(Qls 0) ?_
 refine z6 (zee _) ?_
 refine (Qd 2) ?_
 refine z9 rfl (Un 186) (Z9 _ _ h.1 (Nat.mod_lt _ (by decide))) rfl rfl ?_
 refine z9 rfl (Un 185) (zfJ _ (Nat.mod_lt _ (by decide))) rfl rfl ?_
 refine (gi)<|(QH 3) fun r4=>(Qt 3)<|(j9)<|(Qd 3)<|(ja)<|Qr ?_
 exact ⟨_, rfl, ya 1⟩
theorem zbp (f : NN) (hf : L8 32 f) : Fp G 145 #[.agg (arr .u8 32 f)] (.agg (arr .u8 32 (z0t f))) := by
 refine Qf1 Tryz.func145 ?_
 refine (g4)<|(Qh 0) fun r1=>(QH 1) fun r2=>(gl)<|(Qj 0)<|(Q1 0) ?_
 refine VW (q := 248) rfl rfl rfl  ?_
 refine (Qj 0)<|(Qu 0)<|(gl)<|(Qj 31)<|(Q1 0) ?_
 refine VW (q := 127) rfl rfl rfl  ?_
 refine (Qj 31)<|(Qu 0)<|(gl)<|(Qj 31)<|(Q1 0) ?_
 refine z6w (q := 64) rfl rfl rfl  ?_
 refine (Qj 31)<|(Qu 0)<|(gl)<|(Qd 0)<|(ja)<|Qr ?_
 rw [← zgS hf rfl rfl rfl]
 exact ⟨_, rfl, ya 1⟩
theorem zap (f : NN) (U : Nat) (hf : L8 32 f) (hU : U < PP) : Fp G 144 #[.agg (arr .u8 32 f), fe U] (rgv (v6 U (vb f 32) 255)) := by
 refine Qf1 Tryz.func144 ?_
 refine (g4)<|(Qh 0) fun r1=>(Qh 1) fun r2=>(QH 2) fun r3=>(gl) ?_
 refine zX (arr .u64 4 (upd (fun _ => 0) 0 1)) (Ub 127 rfl) (Uu 127 rfl) (Uz 31 rfl) rfl rfl rfl ?_
 refine z6 (z0U 1 (by decide)) ?_
 refine wo (Ub 127 rfl) (Uu 127 rfl) zkA rfl ?_
 refine z6 (zgu) ?_
 refine wD _ (Ub 186 rfl) (Uu 186 rfl) (Uz 127 rfl) rfl (VV _ _) rfl ?_
 refine (Qd 1) ?_
 refine zX (arr .u64 4 (upd (fun _ => 0) 0 1)) (Ub 127 rfl) (Uu 127 rfl) (Uz 31 rfl) rfl rfl rfl ?_
 refine z6 (z0U 1 (by decide)) ?_
 refine wD _ (Ub 186 rfl) (Uu 186 rfl) (Uz 127 rfl) rfl (VV _ _) rfl ?_
 refine wD _ (Ub 188 rfl) (Uu 188 rfl) (Uz 186 rfl) rfl (z94 _ _) rfl ?_
 refine (QH 3) fun r4=>(Qt 3)<|Qn<|Qs<|(gd)<|Qb ?_
 refine Qz (fun kk E m => ∃ (n : Nat), kk = 2 * n ∧ E = [(2, ptr r1), (3, ptr r2), (4, ptr r3), (5, ptr r4), (6, .int .i64 (((n : Nat) : Int) - 1))] ∧ m = [(0, some ⟨r1, arr .u8 32 f, 30⟩), (1, some ⟨r2, arr .u64 4 (wd U), 127⟩), (2, some ⟨r3, arr .u64 16 (fun _ => 0), 188⟩), (3, some ⟨r4, arr .u64 16 (rgf (v6 U (vb f 32) (255 - n))), 188⟩)] ∧ (n ≤ 255)) ⟨255, rfl, rfl, rfl, by omega⟩ ⟨rfl, rfl, rfl, rfl, rfl, trivial⟩ ⟨rfl, rfl, rfl, rfl, trivial⟩ ?_
 rintro kk E m ⟨n, rfl, rfl, rfl, hf0_0⟩
 refine (ge)<|(QE)<|Qn ?_
 refine (Qcd) (fun hc0=>?_) fun hc0=>?_
 ·obtain ⟨i, rfl⟩ : ∃ i, n = i + 1 := ⟨n - 1, by omega⟩
  have hfi := hf (i / 8) (by omega)
  obtain ⟨b, hb⟩ : ∃ b, b = vb f 32 / 2 ^ i % 2 := ⟨_, rfl⟩
  have hb1 : b ≤ 1 := by omega
  obtain ⟨L, hL⟩ : ∃ L, L = swp b (v6 U (vb f 32) (255 - (i + 1))) := ⟨_, rfl⟩
  have hLL : Lt2 L.1 ∧ Lt2 L.2 := by rw [hL]; exact zjZ (W5 hU _ _)
  refine (jq) ?_
  refine z6 (congrArg (Value.int .i64) (show ((i + 1 : Nat) : Int) - 1 = ((i : Nat) : Int) by omega)) ?_
  refine (Q5 8)<|(gv)<|(Qm) ?_
  refine z6 (congrArg (Value.int .i64) (show ((i + 1 : Nat) : Int) - 1 = ((i : Nat) : Int) by omega)) ?_
  refine (Q4 8) ?_
  refine z8k rfl rfl rfl (by omega) ?_
  refine xz (Uu 5) (Uu 31) rfl rfl rfl ?_
  refine (Q9 1) ?_
  refine (Au ((zd6 hf i (by omega)).trans hb.symm))<|(j9)<|(Qd 3)<|(Qm) ?_
  refine (Ca (z5G (v6 U (vb f 32) (255 - (i + 1))) b hb1)) ?_
  refine z6 (congrArg rgv hL.symm) ?_
  refine (Qt 3)<|(jf)<|(QA 0 0)<|(Qls 3) ?_
  refine z6 (zev _) ?_
  refine (Ca (zfh L.1 hLL.1))<|(Qd 3)<|(Qd 1) ?_
  refine (Ca (zgA L U hLL hU)) ?_
  refine wD _ (Ub 188 rfl) (Uu 188 rfl) (Uz 186 rfl) rfl (z94 _ _) rfl ?_
  refine (Qt 3)<|Qn<|Qp<|(Qd 3)<|(Qm) ?_
  refine (Ca (z5G _ b hb1)) ?_
  refine z6 (congrArg rgv (zdg hU (by omega) hb hL)) ?_
  refine (Qt 3)<|Qn<|(j0) ?_
  refine xH (q := 1) rfl rfl rfl (by omega) (by omega) ?_
  refine (g3) ?_
  refine Qzr ⟨i, rfl, rfl, rfl, by omega⟩ ⟨rfl, rfl, rfl, rfl, congrArg (fun z => some (Value.int .i64 z)) (show ((i + 1 : Nat) : Int) - 1 - 1 = ((i : Nat) : Int) - 1 by omega), trivial⟩ ⟨rfl, rfl, rfl, rfl, trivial⟩ ?_
  omega
 ·have hn0 : n = 0 := by omega
  subst hn0
  refine (jn)<|(Qd 3)<|(Qt 2)<|Qn<|Qr ?_
  exact ⟨_, rfl, ya 2⟩
theorem z5i (f g : NN) (hf : L8 32 f) (hg : L8 32 g) : Fp G 110 #[.agg (arr .u8 32 f), .agg (arr .u8 32 g)] (.tuple #[z7b (z5e (pnt g) (sec f)), .bool (!decide (z5e (pnt g) (sec f) = 0))]) := by
 refine Qf2 Tryz.func110 ?_
 refine (g4)<|(Qh 0) fun r1=>(Qh 1) fun r2=>(QH 2) fun r3=>(j9)<|(Qd 1) ?_
 refine (Ca (zhz g hg))<|(QH 3) fun r4=>(Qt 3)<|(jf)<|(Qd 0) ?_
 refine (Ca (zbp f hf))<|(Qd 3) ?_
 refine (Ca (zap (z0t f) (pnt g) (z97 hf) (z3l g)))<|(QH 4) fun r5=>(Qt 4)<|(gl)<|(QA 0 0)<|(Qls 4) ?_
 refine z6 (zev _) ?_
 refine (Ca (zbk (v6 (pnt g) (sec f) 255).1 (W5 (z3l g) _ _).1))<|(QH 5) fun r6=>(Qt 5)<|Qn<|Qs<|(Qq ⟨[r3], 1, [], none, none⟩) ?_
 refine zV (i := 5) (Uu 30) rfl (Uz 30) rfl rfl (zd _ _ _) rfl ⟨[2], rfl, rfl, trivial⟩ ?_
 refine zV (i := 5) (Uu 30) rfl (Uz 30) rfl rfl (zd _ _ _) rfl ⟨[2], rfl, rfl, trivial⟩ ?_
 refine (Ca (zaA (bt (z5e (pnt g) (sec f))) (fun j _ => ziw _ j))) ?_
 refine z6 (congrArg (fun z => Value.bool (!z)) (z8V (VM _ _))) ?_
 refine z4 (i := 2) (Uz 30) rfl rfl (zd _ _ _) zU rfl (yg _ _ _ _ _) (.inr (by simp)) ?_
 refine (gt) ?_
 exact ⟨_, _, rfl, ya 2, yt⟩
theorem z9C (a : Nat) : Fp G 82 #[fe a] (dg a) := by
 refine Qf1 Tryz.func82 ?_
 refine (g4)<|(Qh 0) fun r1=>(QH 1) fun r2=>(gl)<|(QH 2) fun r3=>Qn<|(jg) ?_
 refine Qz (fun kk E m => ∃ (k : Nat) (s : Nat → Nat), kk = 16 - k ∧ E = [(1, ptr r1), (2, ptr r2), (3, ptr r3), (5, ii k)] ∧ m = [(0, some ⟨r1, arr .u64 4 (wd a), 127⟩), (1, some ⟨r2, arr .u64 16 (fun _ => 0), 120⟩), (2, some ⟨r3, arr .u64 16 s, 120⟩)] ∧ (k ≤ 16) ∧ (∀ j, j < k → s j = d16 a j)) ⟨0, fun _ => 0, rfl, rfl, rfl, by omega, fun j hj => absurd hj (Nat.not_lt_zero j)⟩ ⟨rfl, rfl, rfl, rfl, trivial⟩ ⟨rfl, rfl, rfl, trivial⟩ ?_
 rintro kk E m ⟨k, s, rfl, rfl, rfl, hf0_0, hf0_1⟩
 refine (gq) ?_
 refine (Qcd) (fun hc0=>?_) fun hc0=>?_
 ·refine Qk<|Qs<|Qb<|Qs<|Qp<|(Qm)<|(Qa)<|Qn<|Qp<|(Qm)<|(Qm)<|(Q5 4)<|(Qi)<|(Q1 0)<|(Qm)<|(Q4 4)<|(Q7 16) ?_
  refine YY rfl rfl rfl (by omega) ?_
  refine YC (q := 65536) rfl rfl rfl (by omega) ?_
  refine (Qi)<|(Qu 2)<|(jc) ?_
  refine Qzr ⟨k + 1, upd s k _, rfl, rfl, rfl, by omega, yM hf0_1 (zhx a k)⟩ ⟨rfl, rfl, rfl, rfl, trivial⟩ ⟨rfl, rfl, rfl, trivial⟩ ?_
  omega
 ·refine Qe<|Qs<|Qp<|(Qd 2)<|(Qt 1)<|Qn<|Qr ?_
  have hk : k = 16 := by omega
  subst hk
  rw [dg, ← zg hf0_1]
  exact ⟨_, rfl, ya 1⟩
theorem z9z (f : NN) (hf : ∀ j, j < 16 → f j < 65536) : Fp G 85 #[.agg (arr .u64 16 f)] (fe (vs f 16)) := by
 refine Qf1 Tryz.func85 ?_
 refine (g4)<|(Qh 0) fun r1=>(QH 1) fun r2=>(gl)<|(QH 2) fun r3=>Qn<|(gs)<|(Qd 0)<|(Qm)<|Qn<|Qb ?_
 refine Qz (fun kk E m => ∃ (k : Nat) (s : Nat → Nat), kk = 16 - k ∧ E = [(2, ptr r2), (3, ptr r3), (6, .agg (arr .u64 16 f)), (7, ii k)] ∧ m = [(0, some ⟨r1, arr .u64 16 f, 120⟩), (1, some ⟨r2, arr .u64 4 (fun _ => 0), 127⟩), (2, some ⟨r3, arr .u64 4 s, 127⟩)] ∧ (k ≤ 16) ∧ (∀ j, j < 4 → s j = wd (vs f k) j)) ⟨0, fun _ => 0, rfl, rfl, rfl, by omega, fun j _ => by simp [vs, wd]⟩ ⟨rfl, rfl, rfl, rfl, trivial⟩ ⟨rfl, rfl, rfl, trivial⟩ ?_
 rintro kk E m ⟨k, s, rfl, rfl, rfl, hf0_0, hf0_1⟩
 refine (gq) ?_
 refine (Qcd) (fun hc0=>?_) fun hc0=>?_
 ·refine Qk<|Qs<|Qb<|Qs<|Qp<|(Qm)<|(QX)<|(Qa)<|(Qa)<|Qn<|(Qg)<|(Qm)<|(Q5 4)<|(Qi)<|(Q1 2)<|(Qm)<|(Qm)<|(Q4 4)<|(Q7 16) ?_
  refine w7 rfl rfl rfl (by omega) ?_
  refine v4 rfl rfl rfl  ?_
  refine (Qi)<|(Qu 2)<|(jc) ?_
  refine Qzr ⟨k + 1, upd s (k / 4) _, rfl, rfl, rfl, by omega, zbb f k s (by omega) hf hf0_1⟩ ⟨rfl, rfl, rfl, rfl, trivial⟩ ⟨rfl, rfl, rfl, trivial⟩ ?_
  omega
 ·refine Qe<|Qs<|Qp<|(Qd 2)<|(Qt 1)<|Qn<|Qr ?_
  have hk : k = 16 := by omega
  subst hk
  rw [z06 hf0_1]
  exact ⟨_, rfl, ya 1⟩
theorem Ve (f : NN) (hf : ∀ j, j < 16 → f j < 65536) : Fp (⟨2, arr .u64 16 (d16 PP), 120⟩ :: G) 162 #[.agg (arr .u64 16 f)] (.bool (decide (PP ≤ vs f 16))) := by
 refine Qf1 Tryz.func162 ?_
 refine (g4)<|(Qh 0) fun r1=>(g3)<|Qs<|(gd)<|Qb ?_
 refine Qz (fun kk E m => ∃ (n : Nat), kk = 2 * n ∧ E = [(1, ptr r1), (3, .int .i64 (((n : Nat) : Int) - 1))] ∧ m = [(0, some ⟨r1, arr .u64 16 f, 120⟩)] ∧ (n ≤ 16) ∧ (∀ j, n ≤ j → j < 16 → f j = d16 PP j)) ⟨16, rfl, rfl, rfl, by omega, fun j h1 h2 => absurd h1 (by omega)⟩ ⟨rfl, rfl, trivial⟩ ⟨rfl, trivial⟩ ?_
 rintro kk E m ⟨n, rfl, rfl, rfl, hf0_0, hf0_1⟩
 refine (ge)<|(QE)<|Qn ?_
 refine (Qcd) (fun hc0=>?_) fun hc0=>?_
 ·obtain ⟨i, rfl⟩ : ∃ i, n = i + 1 := ⟨n - 1, by omega⟩
  refine Qk<|Qs<|Qb<|(gr)<|(Qm) ?_
  refine z6 (congrArg (Value.int .i64) (show ((i + 1 : Nat) : Int) - 1 = ((i : Nat) : Int) by omega)) ?_
  refine (gv)<|(Qm) ?_
  refine z6 (congrArg (Value.int .i64) (show ((i + 1 : Nat) : Int) - 1 = ((i : Nat) : Int) by omega)) ?_
  refine (Qi) ?_
  refine yo (i := 0) (Uu 31) rfl rfl rfl (zP (by omega)) rfl ?_
  refine (QN)<|Qn ?_
  refine (Qcd) (fun hc1=>?_) fun hc1=>?_
  ·rw [zbI f i (by omega) hf hf0_1 (by omega)]
   refine (gr)<|(Qm) ?_
   refine z6 (congrArg (Value.int .i64) (show ((i + 1 : Nat) : Int) - 1 = ((i : Nat) : Int) by omega)) ?_
   refine (gv)<|(Qm) ?_
   refine z6 (congrArg (Value.int .i64) (show ((i + 1 : Nat) : Int) - 1 = ((i : Nat) : Int) by omega)) ?_
   refine (Qi) ?_
   refine yo (i := 0) (Uu 31) rfl rfl rfl (zP (by omega)) rfl ?_
   refine (QG)<|(gt) ?_
   exact ⟨_, rfl, yt⟩
  ·have heq : f i = d16 PP i := by omega
   refine Qk<|(j0) ?_
   refine xH (q := 1) rfl rfl rfl (by omega) (by omega) ?_
   refine (g3) ?_
   refine Qzr ⟨i, rfl, rfl, rfl, by omega, za7 hf0_1 heq⟩ ⟨rfl, congrArg (fun z => some (Value.int .i64 z)) (show ((i + 1 : Nat) : Int) - 1 - 1 = ((i : Nat) : Int) - 1 by omega), trivial⟩ ⟨rfl, trivial⟩ ?_
   omega
 ·have hn0 : n = 0 := by omega
  subst hn0
  rw [zgV f hf0_1]
  refine Qe<|(j4) ?_
  exact ⟨_, rfl, yt⟩
theorem vY (f : NN) (hf : ∀ j, j < 16 → f j < 2 ^ 48) : Fp (⟨2, arr .u64 16 (d16 PP), 120⟩ :: G) 126 #[.agg (arr .u64 16 f)] (dg (vs f 16 % PP)) := by
 refine Qf1 Tryz.func126 ?_
 refine (g4)<|(Qh 0) fun r1=>(QH 1) fun r2=>Qn<|(jg) ?_
 refine Qz (fun kk E m => ∃ (k : Nat) (s : Nat → Nat), kk = 3 - k ∧ E = [(1, ptr r1), (2, ptr r2), (8, ii k)] ∧ m = [(0, some ⟨r1, arr .u64 16 s, 120⟩), (1, some ⟨r2, arr .u64 16 (fun _ => 0), 120⟩)] ∧ (k ≤ 3) ∧ (vs s 16 % PP = vs f 16 % PP) ∧ (vs s 16 < bnd k) ∧ (∀ j, j < 16 → s j < 2 ^ 48) ∧ (k = 3 → ∀ j, j < 16 → s j < 65536)) ⟨0, f, rfl, rfl, rfl, by omega, rfl, z1F f hf, hf, fun h => absurd h (by decide)⟩ ⟨rfl, rfl, rfl, trivial⟩ ⟨rfl, rfl, trivial⟩ ?_
 rintro kk E m ⟨k, s, rfl, rfl, rfl, hf0_0, hf0_1, hf0_2, hf0_3, hf0_4⟩
 refine (gq) ?_
 refine (Qcd) (fun hc0=>?_) fun hc0=>?_
 ·refine Qk<|Qs<|Qb<|Qs<|Qp<|(Qa)<|Qn<|Qs<|Qs<|Qp<|(Qm)<|Qn<|Qb ?_
  refine Qz (fun kk E m => ∃ (j : Nat) (s2 : Nat → Nat) (c : Nat), kk = 16 - j ∧ E = [(1, ptr r1), (2, ptr r2), (8, ii k), (3, u c), (10, ii j)] ∧ m = [(0, some ⟨r1, arr .u64 16 s2, 120⟩), (1, some ⟨r2, arr .u64 16 (fun _ => 0), 120⟩)] ∧ (j ≤ 16) ∧ (∀ t, t < j → s2 t < 65536) ∧ (∀ t, j ≤ t → s2 t = s t) ∧ (vs s2 j + c * 2 ^ (16 * j) = vs s j) ∧ (c < 2 ^ 33)) ⟨0, s, 0, rfl, rfl, rfl, by omega, fun t ht => absurd ht (Nat.not_lt_zero t), fun t _ => rfl, by simp [vs], by decide⟩ ⟨rfl, rfl, rfl, rfl, rfl, trivial⟩ ⟨rfl, rfl, trivial⟩ ?_
  rintro kk E m ⟨j, s2, c, rfl, rfl, rfl, hf1_0, hf1_1, hf1_2, hf1_3, hf1_4⟩
  have hs2 : j < 16 → s2 j < 2 ^ 48 := fun h => by rw [hf1_2 j (Nat.le_refl j)]; exact hf0_3 j h
  refine (gq) ?_
  refine (Qcd) (fun hc1=>?_) fun hc1=>?_
  ·have hs3 := hs2 (by omega)
   refine (jq)<|(go)<|(Qm)<|(gv)<|(Qau) ?_
   refine (Au (Ys c (s2 j) (by omega) (by omega)))<|(g3)<|Qp<|(gb) ?_
   refine YC (q := 65536) rfl rfl rfl (by omega) ?_
   refine (Qm) ?_
   refine YL (q := 65536) rfl rfl rfl (by omega) (by omega) ?_
   refine (ji)<|(jb) ?_
   refine Qzr ⟨j + 1, upd s2 j ((c + s2 j) % 65536), (c + s2 j) / 65536, rfl, rfl, rfl, by omega, z0I hf1_1 (Nat.mod_lt _ (by decide)), z3j hf1_2, z7V hf1_3 (hf1_2 j (Nat.le_refl j)), by omega⟩ ⟨rfl, rfl, rfl, rfl, rfl, trivial⟩ ⟨rfl, rfl, trivial⟩ ?_
   omega
  ·have hj16 : j = 16 := by omega
   subst hj16
   have hra := zbR (by omega) hf0_1 hf0_2 hf1_1 hf1_3
   have hd0 := hf1_1 0 (by decide)
   refine Qe<|Qp<|(Qj 0)<|(Q1 0)<|(Qm) ?_
   refine xh (p := 38) rfl rfl rfl  ?_
   refine (Au (Nat.mod_eq_of_lt (show 38 * c < 18446744073709551616 by omega)))<|(Qau) ?_
   refine (Au (Ys (s2 0) (38 * c) (by omega) (by omega)))<|(Qj 0)<|(Qu 0)<|(jc) ?_
   refine Qzr ⟨k + 1, upd s2 0 (s2 0 + 38 * c), rfl, rfl, rfl, by omega, hra.1, hra.2.1, hra.2.2.1, hra.2.2.2⟩ ⟨rfl, rfl, rfl, trivial⟩ ⟨rfl, rfl, trivial⟩ ?_
   omega
 ·have hk3 : k = 3 := by omega
  subst hk3
  have hdig := hf0_4 rfl
  refine Qe<|Qs<|Qb ?_
  refine Qz (fun kk E m => ∃ (s3 : Nat → Nat), kk = vs s3 16 ∧ E = [(1, ptr r1), (2, ptr r2)] ∧ m = [(0, some ⟨r1, arr .u64 16 s3, 120⟩), (1, some ⟨r2, arr .u64 16 (fun _ => 0), 120⟩)] ∧ (∀ j, j < 16 → s3 j < 65536) ∧ (vs s3 16 % PP = vs f 16 % PP)) ⟨s, rfl, rfl, rfl, hdig, hf0_1⟩ ⟨rfl, rfl, trivial⟩ ⟨rfl, rfl, trivial⟩ ?_
  rintro kk E m ⟨s3, rfl, rfl, rfl, hf2_0, hf2_1⟩
  refine (gs)<|(Qd 0) ?_
  refine (Ca (Ve s3 hf2_0))<|Qn ?_
  refine (Qcd) (fun hc2=>?_) fun hc2=>?_
  ·refine Qk<|Qb<|Qs<|Qp<|(Qa)<|Qn<|Qs<|Qp<|(Qm)<|Qn<|Qb ?_
   refine Qz (fun kk E m => ∃ (j2 : Nat) (s4 : Nat → Nat) (c2 : Nat), kk = 16 - j2 ∧ E = [(1, ptr r1), (2, ptr r2), (5, u c2), (34, ii j2)] ∧ m = [(0, some ⟨r1, arr .u64 16 s4, 120⟩), (1, some ⟨r2, arr .u64 16 (fun _ => 0), 120⟩)] ∧ (j2 ≤ 16) ∧ (∀ t, t < j2 → s4 t < 65536) ∧ (∀ t, j2 ≤ t → s4 t = s3 t) ∧ (c2 ≤ 1) ∧ (vs s4 j2 + vs (d16 PP) j2 = vs s3 j2 + c2 * 2 ^ (16 * j2))) ⟨0, s3, 0, rfl, rfl, rfl, by omega, fun t ht => absurd ht (Nat.not_lt_zero t), fun t _ => rfl, by decide, by simp [vs]⟩ ⟨rfl, rfl, rfl, rfl, trivial⟩ ⟨rfl, rfl, trivial⟩ ?_
   rintro kk E m ⟨j2, s4, c2, rfl, rfl, rfl, hf3_0, hf3_1, hf3_2, hf3_3, hf3_4⟩
   have hpd := xg PP j2
   have hs4 : s4 j2 = s3 j2 := hf3_2 j2 (Nat.le_refl j2)
   have hs6 : j2 < 16 → s3 j2 < 65536 := fun h => hf2_0 j2 h
   refine (gq) ?_
   refine (Qcd) (fun hc3=>?_) fun hc3=>?_
   ·have hs5 := hs6 (by omega)
    refine (jq)<|(g3)<|(gr)<|(Qm)<|(gv) ?_
    refine wR (q := 65536) rfl rfl rfl  ?_
    refine (Qm)<|(Qi) ?_
    refine yo (i := 0) (Uu 31) rfl rfl rfl (zP (by omega)) rfl ?_
    refine xV rfl rfl rfl (by omega) ?_
    refine (Qm) ?_
    refine xV rfl rfl rfl (by omega) ?_
    refine (Au (z6d (s4 j2) (d16 PP j2) c2 (by omega) (by omega) (by omega)))<|(g3)<|Qp<|(gb) ?_
    refine YC (q := 65536) rfl rfl rfl (by omega) ?_
    refine (Qm) ?_
    refine YL (q := 65536) rfl rfl rfl (by omega) (by omega) ?_
    refine xV (p := 1) rfl rfl rfl (by omega) ?_
    refine z6 (congrArg u (z2J _ (by omega))) ?_
    refine (ji)<|(jb) ?_
    refine Qzr ⟨j2 + 1, upd s4 j2 ((s4 j2 + 65536 - d16 PP j2 - c2) % 65536), 1 - (s4 j2 + 65536 - d16 PP j2 - c2) / 65536, rfl, rfl, rfl, by omega, z0I hf3_1 (Nat.mod_lt _ (by decide)), z3j hf3_2, by omega, by rw [hs4]; exact V9 hf3_3 hs5 (xg PP j2) hf3_4⟩ ⟨rfl, rfl, rfl, rfl, trivial⟩ ⟨rfl, rfl, trivial⟩ ?_
    omega
   ·have hj16 : j2 = 16 := by omega
    subst hj16
    have hmf := z9J hf3_1 hc2 hf3_4 hf3_3
    refine Qe ?_
    refine Qzr ⟨s4, rfl, rfl, rfl, hf3_1, by rw [← hf2_1, ← hmf, Nat.add_mod_right]⟩ ⟨rfl, rfl, trivial⟩ ⟨rfl, rfl, trivial⟩ ?_
    have := zje
    omega
  ·refine Qe<|Qs<|Qp<|(Qd 0)<|(Qt 1)<|Qn<|Qr ?_
   have hlt : vs s3 16 < PP := by omega
   rw [← zkF hf2_0 (show vs s3 16 = vs f 16 % PP by rw [← hf2_1, Nat.mod_eq_of_lt hlt])]
   exact ⟨_, rfl, ya 1⟩
theorem zkx (a : Nat) (ha : a < 2 ^ 256) : Fp (⟨2, arr .u64 16 (d16 PP), 120⟩ :: G) 125 #[fe a] (.bool (decide (a < PP))) := by
 refine Qf1 Tryz.func125 ?_
 refine (g4)<|(Qh 0) fun r1=>(j9)<|(Qd 0) ?_
 refine (Ca (z9C _)) ?_
 refine (Ca (Ve (d16 a) (fun j _ => xg a j)))<|(Q0) ?_
 refine (Ab (zgs a ha))<|(gt) ?_
 exact ⟨_, rfl, yt⟩
theorem Zd (x y : Nat) (hx : x < 2 ^ 256) (hy : y < 2 ^ 256) : Fp (⟨2, arr .u64 16 (d16 PP), 120⟩ :: G) 160 #[dg x, dg y] (dg ((x + y) % PP)) := by
 refine Qf1 Tryz.func160 ?_
 refine (g4)<|(Qh 0) fun r1=>(Qh 1) fun r2=>(QH 2) fun r3=>Qn<|(jg) ?_
 refine Qz (fun kk E m => ∃ (k : Nat) (s : Nat → Nat), kk = 16 - k ∧ E = [(2, ptr r1), (3, ptr r2), (4, ptr r3), (6, ii k)] ∧ m = [(0, some ⟨r1, arr .u64 16 s, 120⟩), (1, some ⟨r2, arr .u64 16 (d16 y), 120⟩), (2, some ⟨r3, arr .u64 16 (fun _ => 0), 120⟩)] ∧ (k ≤ 16) ∧ (∀ t, t < k → s t = d16 x t + d16 y t) ∧ (∀ t, k ≤ t → s t = d16 x t)) ⟨0, d16 x, rfl, rfl, rfl, by omega, fun t ht => absurd ht (Nat.not_lt_zero t), fun t _ => rfl⟩ ⟨rfl, rfl, rfl, rfl, trivial⟩ ⟨rfl, rfl, rfl, trivial⟩ ?_
 rintro kk E m ⟨k, s, rfl, rfl, rfl, hf0_0, hf0_1, hf0_2⟩
 have hsk : s k = d16 x k := hf0_2 k (Nat.le_refl k)
 have h1 := xg x k
 have h2 := xg y k
 refine (gq) ?_
 refine (Qcd) (fun hc0=>?_) fun hc0=>?_
 ·refine Qk<|Qs<|Qb<|Qs<|Qp<|(Qm)<|(Qa)<|Qn<|(Qg)<|(Qm)<|(Qi)<|(Q1 0)<|(Qm)<|(Qi)<|(Q1 1) ?_
  refine (Qau) ?_
  refine (Au (Ys (s k) (d16 y k) (by omega) (by omega)))<|(ji)<|(jc) ?_
  refine Qzr ⟨k + 1, upd s k (s k + d16 y k), rfl, rfl, rfl, by omega, yM (g := fun t => d16 x t + d16 y t) hf0_1 (by rw [hf0_2 k (Nat.le_refl k)]), Xk hf0_2⟩ ⟨rfl, rfl, rfl, rfl, trivial⟩ ⟨rfl, rfl, rfl, trivial⟩ ?_
  omega
 ·have hk : k = 16 := by omega
  subst hk
  refine (jn)<|(Qd 0) ?_
  refine (Ca (vY s (fun j hj => by rw [hf0_1 j hj]; have := xg x j; have := xg y j; omega)))<|(Qt 2)<|Qn<|Qr ?_
  rw [show (x + y) % PP = vs s 16 % PP by rw [zer 16 hf0_1, Y3 x hx, Y3 y hy]]
  exact ⟨_, rfl, ya 2⟩
theorem z10 (x : Nat) (hx : x ≤ PP) : Fp (⟨2, arr .u64 16 (d16 PP), 120⟩ :: G) 161 #[dg x] (dg ((PP - x) % PP)) := by
 have hx2 : x < 2 ^ 256 := Nat.lt_of_le_of_lt hx (by decide)
 refine Qf1 Tryz.func161 ?_
 refine (g4)<|(Qh 0) fun r1=>(QH 1) fun r2=>Qn<|(gd)<|(jg) ?_
 refine Qz (fun kk E m => ∃ (j : Nat) (s : Nat → Nat) (c : Nat), kk = 16 - j ∧ E = [(1, ptr r1), (2, ptr r2), (3, u c), (6, ii j)] ∧ m = [(0, some ⟨r1, arr .u64 16 s, 120⟩), (1, some ⟨r2, arr .u64 16 (fun _ => 0), 120⟩)] ∧ (j ≤ 16) ∧ (∀ t, t < j → s t < 65536) ∧ (∀ t, j ≤ t → s t = d16 x t) ∧ (c ≤ 1) ∧ (vs s j + vs (d16 x) j = vs (d16 PP) j + c * 2 ^ (16 * j))) ⟨0, d16 x, 0, rfl, rfl, rfl, by omega, fun t ht => absurd ht (Nat.not_lt_zero t), fun t _ => rfl, by decide, by simp [vs]⟩ ⟨rfl, rfl, rfl, rfl, trivial⟩ ⟨rfl, rfl, trivial⟩ ?_
 rintro kk E m ⟨j, s, c, rfl, rfl, rfl, hf0_0, hf0_1, hf0_2, hf0_3, hf0_4⟩
 have hpd := xg PP j
 have hxd := xg x j
 have hs4 : s j = d16 x j := hf0_2 j (Nat.le_refl j)
 refine (gq) ?_
 refine (Qcd) (fun hc0=>?_) fun hc0=>?_
 ·refine Qk<|Qs<|Qb<|Qs<|Qp<|(Qm)<|(Qa)<|Qn<|Qs<|(Qg)<|(Qm)<|(Qi) ?_
  refine yo (i := 0) (Uu 31) rfl rfl rfl (zP (by omega)) rfl ?_
  refine wR (q := 65536) rfl rfl rfl  ?_
  refine (Qm)<|(gv) ?_
  refine (Au hs4) ?_
  refine xV rfl rfl rfl (by omega) ?_
  refine (Qm) ?_
  refine xV rfl rfl rfl (by omega) ?_
  refine (Au (z6d (d16 PP j) (d16 x j) c (by omega) (by omega) (by omega)))<|(g3)<|Qp<|(gb) ?_
  refine YC (q := 65536) rfl rfl rfl (by omega) ?_
  refine (Qm) ?_
  refine YL (q := 65536) rfl rfl rfl (by omega) (by omega) ?_
  refine xV (p := 1) rfl rfl rfl (by omega) ?_
  refine z6 (congrArg u (z2J _ (by omega))) ?_
  refine (ji)<|(jb) ?_
  refine Qzr ⟨j + 1, upd s j ((d16 PP j + 65536 - d16 x j - c) % 65536), 1 - (d16 PP j + 65536 - d16 x j - c) / 65536, rfl, rfl, rfl, by omega, z0I hf0_1 (Nat.mod_lt _ (by decide)), z3j hf0_2, by omega, V9 hf0_3 (xg PP j) (xg x j) hf0_4⟩ ⟨rfl, rfl, rfl, rfl, trivial⟩ ⟨rfl, rfl, trivial⟩ ?_
  omega
 ·have hj : j = 16 := by omega
  subst hj
  have hof := zi9 (s := d16 x) hf0_1 (by rw [Y3 x hx2]; exact hx) hf0_4 hf0_3
  rw [Y3 x hx2] at hof
  refine (jn)<|(Qd 0) ?_
  refine (Ca (vY s (fun t ht => Nat.lt_trans (hf0_1 t ht) (by decide))))<|(ja)<|Qr ?_
  rw [← hof]
  exact ⟨_, rfl, ya 1⟩
end Go.Proofs.YtlidhfijmcelpaaGreatDoor
