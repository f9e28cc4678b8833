import Derived.Test.YtacflmjoigffpaaGreatDoorKX14
set_option maxRecDepth 30000
set_option maxHeartbeats 8000000
attribute [local simp] Go.Proofs.YtacflmjoigffpaaGreatDoor.By Go.Proofs.YtacflmjoigffpaaGreatDoor.L8
namespace Go.Proofs.YtacflmjoigffpaaGreatDoor
open Go Go.RowKit
variable {G : Mem}
theorem zmN (n : LN) (m : Int) (hn8 : By n) (hz : n.length < 4294967281) (hb : Xx n = true) : Fp (MLB m :: G) 54 #[sv n] (.tuple #[sv [], zV, .bool false]) := by
 have hmid : ∀ b ∈ zQ n, b < 256 := fun b hb => hn8 b (List.mem_of_mem_drop (List.mem_of_mem_take hb))
 have hml : (zQ n).length ≤ n.length := by unfold zQ; simp; omega
 have hcl := ZQ n hdN
 refine Qf3 Tryz.func54 ?_
 refine (g4) ?_
 refine y8 (v := sv []) rfl rfl ?_
 refine (g7)<|(g5) ?_
 refine (Ca (Zz n hdN hn8 (by decide)))<|(ge)<|(g7)<|(g5) ?_
 refine (Ca (Xj (xD n hdN) tlN (fun b hb => hn8 b (X8 hb)) (by decide) (by omega)))<|(ge)<|(g7)<|(gu) ?_
 refine zW [(0, _), (2, _), (3, _), (4, _), (5, _), (6, _), (7, _), (11, _), (12, _), (13, _), (14, _), (15, _), (16, _), (17, _), (18, _), (19, _), (20, _)] [(26, .bool (Xx n))] [] ⟨rfl, rfl, rfl, rfl, rfl, rfl, rfl, rfl, rfl, rfl, rfl, rfl, rfl, rfl, rfl, rfl, rfl, trivial⟩ trivial ?_ ?_
 ·skip
  refine (Qm)<|(Q0)<|(Qm) ?_
  refine zM (b := !(ZK n hdN)) (fun hb0 => ?_) (fun hb0 => ?_)
  ·skip
   refine (g6)<|(QT)<|Qn ?_
   exact ⟨⟨rfl, rfl, rfl, rfl, rfl, rfl, rfl, rfl, rfl, rfl, rfl, rfl, rfl, rfl, rfl, rfl, rfl, trivial⟩, ⟨zf (by rw [wr, hb0] <;> rfl), trivial⟩, trivial⟩
  ·skip
   refine (Qy)<|(g8)<|(Q0)<|(QF)<|Qn ?_
   exact ⟨⟨rfl, rfl, rfl, rfl, rfl, rfl, rfl, rfl, rfl, rfl, rfl, rfl, rfl, rfl, rfl, rfl, rfl, trivial⟩, ⟨zf (by rw [wr, hb0] <;> rfl), trivial⟩, trivial⟩
 ·simp only [zB]
  refine ze rfl ?_ ?_
  ·intro hc0
   refine (g4) ?_
   refine y8 (v := sv []) rfl rfl ?_
   refine (gr) ?_
   exact ⟨_, _, _, rfl, yt, yt, yt⟩
  ·intro hc0
   rw [hb] at hc0
   cases hc0
theorem z7a (n : LN) (m : Int) (hn8 : By n) (hz : n.length < 4294967281) (hb : Xx n = false) (hi : ixp (zQ n) = none) : Fp (MLB m :: G) 54 #[sv n] (.tuple #[sv (zQ n), zV, .bool true]) := by
 have hmid : ∀ b ∈ zQ n, b < 256 := fun b hb => hn8 b (List.mem_of_mem_drop (List.mem_of_mem_take hb))
 have hml : (zQ n).length ≤ n.length := by unfold zQ; simp; omega
 have hcl := ZQ n hdN
 refine Qf3 Tryz.func54 ?_
 refine (g4) ?_
 refine y8 (v := sv []) rfl rfl ?_
 refine (g7)<|(g5) ?_
 refine (Ca (Zz n hdN hn8 (by decide)))<|(ge)<|(g7)<|(g5) ?_
 refine (Ca (Xj (xD n hdN) tlN (fun b hb => hn8 b (X8 hb)) (by decide) (by omega)))<|(ge)<|(g7)<|(gu) ?_
 refine zW [(0, _), (2, _), (3, _), (4, _), (5, _), (6, _), (7, _), (11, _), (12, _), (13, _), (14, _), (15, _), (16, _), (17, _), (18, _), (19, _), (20, _)] [(26, .bool (Xx n))] [] ⟨rfl, rfl, rfl, rfl, rfl, rfl, rfl, rfl, rfl, rfl, rfl, rfl, rfl, rfl, rfl, rfl, rfl, trivial⟩ trivial ?_ ?_
 ·skip
  refine (Qm)<|(Q0)<|(Qm) ?_
  refine zM (b := !(ZK n hdN)) (fun hb0 => ?_) (fun hb0 => ?_)
  ·skip
   refine (g6)<|(QT)<|Qn ?_
   exact ⟨⟨rfl, rfl, rfl, rfl, rfl, rfl, rfl, rfl, rfl, rfl, rfl, rfl, rfl, rfl, rfl, rfl, rfl, trivial⟩, ⟨zf (by rw [wr, hb0] <;> rfl), trivial⟩, trivial⟩
  ·skip
   refine (Qy)<|(g8)<|(Q0)<|(QF)<|Qn ?_
   exact ⟨⟨rfl, rfl, rfl, rfl, rfl, rfl, rfl, rfl, rfl, rfl, rfl, rfl, rfl, rfl, rfl, rfl, rfl, trivial⟩, ⟨zf (by rw [wr, hb0] <;> rfl), trivial⟩, trivial⟩
 ·simp only [zB]
  refine ze rfl ?_ ?_
  ·intro hc0
   rw [hb] at hc0
   cases hc0
  ·intro hc0
   refine Qk<|(g5) ?_
   refine zi (congrArg sv (Zq hb)) ?_
   refine (Ca ((Vs (G := []) (zQ n) m hmid (by omega)).more (fun x hx => List.mem_cons.2 (.inl (List.mem_singleton.1 hx))))) ?_
   refine zi (congrArg ixv hi) ?_
   refine (gx)<|(Ql)<|Qn ?_
   refine ze rfl ?_ ?_
   ·intro hc1
    refine (g5) ?_
    refine zi (congrArg sv (Zq hb)) ?_
    refine (Qa)<|(gr) ?_
    exact ⟨_, _, _, rfl, yt, yt, yt⟩
   ·intro hc1
    exact absurd (of_decide_eq_false hc1) (by decide)
theorem zlR (n : LN) (m : Int) (hn8 : By n) (hz : n.length < 4294967281) (hb : Xx n = false) (i : Nat) (hi : ixp (zQ n) = some i) (hal : xx (yl ((zQ n).drop i) 43) = none) : Fp (MLB m :: G) 54 #[sv n] (.tuple #[sv ((zQ n).take i), zV, .bool false]) := by
 have hmid : ∀ b ∈ zQ n, b < 256 := fun b hb => hn8 b (List.mem_of_mem_drop (List.mem_of_mem_take hb))
 have hml : (zQ n).length ≤ n.length := by unfold zQ; simp; omega
 have hcl := ZQ n hdN
 refine Qf3 Tryz.func54 ?_
 refine (g4) ?_
 refine y8 (v := sv []) rfl rfl ?_
 refine (g7)<|(g5) ?_
 refine (Ca (Zz n hdN hn8 (by decide)))<|(ge)<|(g7)<|(g5) ?_
 refine (Ca (Xj (xD n hdN) tlN (fun b hb => hn8 b (X8 hb)) (by decide) (by omega)))<|(ge)<|(g7)<|(gu) ?_
 refine zW [(0, _), (2, _), (3, _), (4, _), (5, _), (6, _), (7, _), (11, _), (12, _), (13, _), (14, _), (15, _), (16, _), (17, _), (18, _), (19, _), (20, _)] [(26, .bool (Xx n))] [] ⟨rfl, rfl, rfl, rfl, rfl, rfl, rfl, rfl, rfl, rfl, rfl, rfl, rfl, rfl, rfl, rfl, rfl, trivial⟩ trivial ?_ ?_
 ·skip
  refine (Qm)<|(Q0)<|(Qm) ?_
  refine zM (b := !(ZK n hdN)) (fun hb0 => ?_) (fun hb0 => ?_)
  ·skip
   refine (g6)<|(QT)<|Qn ?_
   exact ⟨⟨rfl, rfl, rfl, rfl, rfl, rfl, rfl, rfl, rfl, rfl, rfl, rfl, rfl, rfl, rfl, rfl, rfl, trivial⟩, ⟨zf (by rw [wr, hb0] <;> rfl), trivial⟩, trivial⟩
  ·skip
   refine (Qy)<|(g8)<|(Q0)<|(QF)<|Qn ?_
   exact ⟨⟨rfl, rfl, rfl, rfl, rfl, rfl, rfl, rfl, rfl, rfl, rfl, rfl, rfl, rfl, rfl, rfl, rfl, trivial⟩, ⟨zf (by rw [wr, hb0] <;> rfl), trivial⟩, trivial⟩
 ·simp only [zB]
  refine ze rfl ?_ ?_
  ·intro hc0
   rw [hb] at hc0
   cases hc0
  ·intro hc0
   refine Qk<|(g5) ?_
   refine zi (congrArg sv (Zq hb)) ?_
   refine (Ca ((Vs (G := []) (zQ n) m hmid (by omega)).more (fun x hx => List.mem_cons.2 (.inl (List.mem_singleton.1 hx))))) ?_
   refine zi (congrArg ixv hi) ?_
   refine (gx)<|(Ql)<|Qn ?_
   refine ze rfl ?_ ?_
   ·intro hc1
    exact absurd (of_decide_eq_true hc1) (by omega)
   ·intro hc1
    have hil := XT hi
    refine Qk<|(g5) ?_
    refine zi (congrArg sv (Zq hb)) ?_
    refine (Qm) ?_
    refine zG i (zQ n).length (Uu 9) rfl rfl rfl ⟨_, rfl⟩ rfl (by omega) (by omega) rfl ?_
    refine zi (congrArg sv (show ((zQ n).drop i).take ((zQ n).length - i) = ((zQ n).drop i) from List.take_of_length_le (by simp))) ?_
    refine (Ca (z7Y ((zQ n).drop i) (fun b hb => hmid b (List.mem_of_mem_drop hb)) (by rw [List.length_drop]; omega) hal))<|(ge)<|(g7)<|(g5) ?_
    refine zi (congrArg sv (Zq hb)) ?_
    refine (Qm) ?_
    refine zG 0 i (Uu 9) rfl rfl rfl rfl ⟨_, rfl⟩ (by omega) (by omega) rfl ?_
    refine (Av (sv ((zQ n).take i)))<|(ga)<|(Qa)<|(gr) ?_
    exact ⟨_, _, _, rfl, yt, yt, yt⟩
theorem zfs (n : LN) (m : Int) (hn8 : By n) (hz : n.length < 4294967281) (hb : Xx n = false) (i : Nat) (hi : ixp (zQ n) = some i) (ds : LN) (hal : xx (yl ((zQ n).drop i) 43) = some ds) : Fq (MLB m :: G) [] 54 #[sv n] (fun v l1 nw => l1 = [] ∧ ∃ v', v = .tuple #[sv ((zQ n).take i), v', .bool true] ∧ OwnS 3 1 v' (ds.take 5).length (iis (ds.take 5)) nw) := by
 have hmid : ∀ b ∈ zQ n, b < 256 := fun b hb => hn8 b (List.mem_of_mem_drop (List.mem_of_mem_take hb))
 have hml : (zQ n).length ≤ n.length := by unfold zQ; simp; omega
 have hcl := ZQ n hdN
 refine QfO Tryz.func54 ?_
 refine (g4) ?_
 refine y8 (v := sv []) rfl rfl ?_
 refine (g7)<|(g5) ?_
 refine (Ca (Zz n hdN hn8 (by decide)))<|(ge)<|(g7)<|(g5) ?_
 refine (Ca (Xj (xD n hdN) tlN (fun b hb => hn8 b (X8 hb)) (by decide) (by omega)))<|(ge)<|(g7)<|(gu) ?_
 refine zW [(0, _), (2, _), (3, _), (4, _), (5, _), (6, _), (7, _), (11, _), (12, _), (13, _), (14, _), (15, _), (16, _), (17, _), (18, _), (19, _), (20, _)] [(26, .bool (Xx n))] [] ⟨rfl, rfl, rfl, rfl, rfl, rfl, rfl, rfl, rfl, rfl, rfl, rfl, rfl, rfl, rfl, rfl, rfl, trivial⟩ trivial ?_ ?_
 ·skip
  refine (Qm)<|(Q0)<|(Qm) ?_
  refine zM (b := !(ZK n hdN)) (fun hb0 => ?_) (fun hb0 => ?_)
  ·skip
   refine (g6)<|(QT)<|Qn ?_
   exact ⟨⟨rfl, rfl, rfl, rfl, rfl, rfl, rfl, rfl, rfl, rfl, rfl, rfl, rfl, rfl, rfl, rfl, rfl, trivial⟩, ⟨zf (by rw [wr, hb0] <;> rfl), trivial⟩, trivial⟩
  ·skip
   refine (Qy)<|(g8)<|(Q0)<|(QF)<|Qn ?_
   exact ⟨⟨rfl, rfl, rfl, rfl, rfl, rfl, rfl, rfl, rfl, rfl, rfl, rfl, rfl, rfl, rfl, rfl, rfl, trivial⟩, ⟨zf (by rw [wr, hb0] <;> rfl), trivial⟩, trivial⟩
 ·simp only [zB]
  refine ze rfl ?_ ?_
  ·intro hc0
   rw [hb] at hc0
   cases hc0
  ·intro hc0
   refine Qk<|(g5) ?_
   refine zi (congrArg sv (Zq hb)) ?_
   refine (Ca ((Vs (G := []) (zQ n) m hmid (by omega)).more (fun x hx => List.mem_cons.2 (.inl (List.mem_singleton.1 hx))))) ?_
   refine zi (congrArg ixv hi) ?_
   refine (gx)<|(Ql)<|Qn ?_
   refine ze rfl ?_ ?_
   ·intro hc1
    exact absurd (of_decide_eq_true hc1) (by omega)
   ·intro hc1
    have hil := XT hi
    refine Qk<|Qs<|QR ⟨[], 4, [], none, none⟩<|(Qm) ?_
    refine zi (congrArg sv (Zq hb)) ?_
    refine (Qm) ?_
    refine zG i (zQ n).length (Uu 9) rfl rfl rfl ⟨_, rfl⟩ rfl (by omega) (by omega) rfl ?_
    refine zi (congrArg sv (show ((zQ n).drop i).take ((zQ n).length - i) = ((zQ n).drop i) from List.take_of_length_le (by simp))) ?_
    refine zK 0 (fun v => .tuple #[v, .bool true]) rfl rfl (Un 89) zo (zaS ((zQ n).drop i) (fun b hb => hmid b (List.mem_of_mem_drop hb)) (by rw [List.length_drop]; omega) ds hal) (by simp only [maxLen, List.length_take]; omega) (by rw [List.length_map, Nat.mul_one]) rfl rfl fun v4_1 oz4_1 ho4_1 => ?_
    refine (ge)<|(g7)<|(g5) ?_
    refine zi (congrArg sv (Zq hb)) ?_
    refine (Qm) ?_
    refine zG 0 i (Uu 9) rfl rfl rfl rfl ⟨_, rfl⟩ (by omega) (by omega) rfl ?_
    refine (Av (sv ((zQ n).take i)))<|(ga)<|(Qa)<|(gr) ?_
    exact ⟨_, _, _, _, _, 0, rfl, yt, yt, yt, ho4_1, rfl⟩
theorem zdN (v : Value) (ps : List Int) (t : Nat) (hv : Shows G 1 v ps.length (ps.map iv)) (hz : ps.length ≤ 9223372036854775807) : Fp G 76 #[v, ii t] (ii (z10 t ps)) := by
 refine Qf1 Tryz.func76 ?_
 refine (gb)<|(gc)<|(QC hv)<|(QG)<|Qn ?_
 refine ze rfl ?_ ?_
 ·intro hc0
  rw [show z10 t ps = 1 by rw [z10, if_pos (by have := of_decide_eq_true hc0; omega)]]
  refine (gw) ?_
  first | rw [hpc, hf0_1, z0k hz0] | skip
  exact ⟨_, rfl, yt⟩
 ·intro hc0
  have hpc : z10 t ps = pck t (-1) ps := by rw [z10, if_neg (by have := of_decide_eq_false hc0; omega)]
  refine Qk<|(gc)<|(QC hv)<|(Qm)<|Qn<|Qb ?_
  refine QzK [(0, _), (1, _), (10, _), (11, _)] [] (fun kk E m => ∃ (i : Nat), kk = ps.length - i ∧ E = [(12, ii i)] ∧ m = [] ∧ (i ≤ ps.length) ∧ (pck t (-1) ps = pck t (z0R ps i) (ps.drop i))) ⟨0, rfl, rfl, rfl, by omega, rfl⟩ ⟨rfl, rfl, rfl, rfl, rfl, trivial⟩ trivial ?_
  rintro kk E m ⟨i, rfl, rfl, rfl, hf0_0, hf0_1⟩
  simp only [zB, zA]
  refine (gt) ?_
  refine (Qcd) (fun hc1=>?_) fun hc1=>?_
  ·have hc1 : i < ps.length := by omega
   refine Qk<|Qs<|Qb<|(g5) ?_
   refine xf hv (Uu 25) (Uz 3) rfl rfl (by omega) rfl ?_
   refine (QS) ?_
   refine yc hv zo (Uu 3) rfl rfl (z1v (by omega)) rfl ?_
   refine (g7)<|(gu) ?_
   refine zW [(0, _), (1, _), (5, _), (6, _), (10, _), (11, _), (12, _), (13, _), (14, _), (15, _), (16, _)] [(23, .bool (decide ((ps.getD i 0) < 0) || decide ((t : Int) < (ps.getD i 0))))] [] ⟨rfl, rfl, rfl, rfl, rfl, rfl, rfl, rfl, rfl, rfl, rfl, trivial⟩ trivial ?_ ?_
   ·skip
    refine (Qm)<|(Ql)<|(Qm) ?_
    refine zM (b := decide ((ps.getD i 0) < 0)) (fun hb0 => ?_) (fun hb0 => ?_)
    ·skip
     refine (gz)<|(QT)<|Qn ?_
     exact ⟨⟨rfl, rfl, rfl, rfl, rfl, rfl, rfl, rfl, rfl, rfl, rfl, trivial⟩, ⟨zf (by rw [hb0] <;> rfl), trivial⟩, trivial⟩
    ·skip
     refine (Qy)<|(gk)<|(QG)<|(QF)<|Qn ?_
     exact ⟨⟨rfl, rfl, rfl, rfl, rfl, rfl, rfl, rfl, rfl, rfl, rfl, trivial⟩, ⟨zf (by rw [hb0] <;> rfl), trivial⟩, trivial⟩
   ·simp only [zB]
    refine ze rfl ?_ ?_
    ·intro hc2
     rw [hpc, hf0_1, zbR (by omega) (zcY hc2)]
     refine (gw) ?_
     first | rw [hpc, hf0_1, z0k hz0] | skip
     exact ⟨_, rfl, yt⟩
    ·intro hc2
     have hxr : ¬ ((ps.getD i 0) < 0 ∨ (t : Int) < (ps.getD i 0)) := zbh hc2
     refine Qk<|(g4) ?_
     refine zW [(0, _), (1, _), (5, _), (6, _), (10, _), (11, _), (12, _), (13, _), (14, _), (15, _), (16, _), (23, _)] [(34, .bool (decide ((0 : Int) < (i : Int)) && decide ((ps.getD i 0) ≤ (ps.getD (i - 1) 0))))] [] ⟨rfl, rfl, rfl, rfl, rfl, rfl, rfl, rfl, rfl, rfl, rfl, rfl, trivial⟩ trivial ?_ ?_
     ·skip
      refine (Qm)<|(QG)<|(Qm) ?_
      refine zM (b := decide ((0 : Int) < (i : Int))) (fun hb1 => ?_) (fun hb1 => ?_)
      ·skip
       refine (Qy)<|(gk)<|(g8) ?_
       refine yy (q := 1) rfl rfl rfl (by omega) (by have := of_decide_eq_true hb1; omega) ?_
       refine (Qy) ?_
       refine xf hv (Uu 25) (Uz 3) rfl rfl (by have := of_decide_eq_true hb1; omega) rfl ?_
       refine (QS)<|(Qy) ?_
       refine yc hv zo (Uu 3) rfl rfl (z1v (by have := of_decide_eq_true hb1; omega)) rfl ?_
       refine (Qy)<|(QL)<|(QT)<|Qn ?_
       exact ⟨⟨rfl, rfl, rfl, rfl, rfl, rfl, rfl, rfl, rfl, rfl, rfl, rfl, trivial⟩, ⟨zf (by rw [hb1] <;> rfl), trivial⟩, trivial⟩
      ·skip
       refine (gm)<|(gz)<|(QF)<|Qn ?_
       exact ⟨⟨rfl, rfl, rfl, rfl, rfl, rfl, rfl, rfl, rfl, rfl, rfl, rfl, trivial⟩, ⟨zf (by rw [hb1] <;> rfl), trivial⟩, trivial⟩
     ·simp only [zB]
      refine ze rfl ?_ ?_
      ·intro hc3
       rw [hpc, hf0_1, zd3 (by omega) hxr (zcV hc3)]
       refine (gw) ?_
       first | rw [hpc, hf0_1, z0k hz0] | skip
       exact ⟨_, rfl, yt⟩
      ·intro hc3
       have hxl := zi8 hxr hc3
       refine Qk<|(go) ?_
       refine QzL ⟨i + 1, rfl, rfl, rfl, by omega, (hf0_1.trans (by rw [zdB (by omega) hxr hxl, z0R, if_neg (by omega)]; rfl))⟩ ⟨rfl, rfl, rfl, rfl, rfl, trivial⟩ trivial ?_
       omega
  ·have hz0 : i = ps.length := by omega
   refine Qe<|(gw) ?_
   first | rw [hpc, hf0_1, z0k hz0] | skip
   exact ⟨_, rfl, yt⟩
theorem V0 (rT t n : Nat) (TF : Nat → Value) (q : LN) (oz : Option Blk) (hR : OwnS 3 1 (TF (n - 1)) q.length (iis q) oz.toList) (ht : n - 1 < t) (hn : n ≤ 100) (hq : q.length ≤ 100) (hne : ∀ z, oz = some z → z.b ≠ rT) : Fq G (⟨rT, zO t TF, 25⟩ :: oz.toList) 77 #[slv rT t, ii n] (Two rT 25 oz (fun v c' oz' => v = Value.tuple #[] ∧ ∃ w', c' = zO t (Yb TF (n - 1) w') ∧ OwnS 3 1 w' (z0X n q).length (iis (z0X n q)) oz'.toList)) := by
 refine zol (n := 24) Tryz.func77 rfl rfl (by simp) (xM [slv rT t, ii n] 0) (yi _) hne ?_
 refine (gc)<|(Qc)<|Qn ?_
 refine ze rfl ?_ ?_
 ·intro hc0
  obtain rfl : n = 0 := by have := of_decide_eq_true hc0; omega
  refine (g5) ?_
  refine zu 2 #[ii 7] (Uu 25 rfl) (Uz 3 rfl) (Ub 3 rfl) (by decide) (by decide) rfl (by kernel_rfl) rfl fun r3 => ?_
  refine (Qm) ?_
  refine Zy (0) (j := 0) (Uu 27) (Uz 25) rfl rfl (by omega) (by omega) rfl ?_
  refine yg (i := 0) (Uu 25) rfl rfl rfl (yB (by omega)) rfl ⟨[], trivial⟩ ?_
  refine x9 2 (w5 3 r3 [7] (by decide)) hR.shows rfl (xF 1 rfl ⟨[], trivial⟩) (Uu 25) (Uz 3) (Uy 3) (Ub 3) (by rfl) rfl rfl (zjE _) (by simp only [maxLen, List.length_cons, List.length_nil]; omega) (by simp only [List.length_cons, List.length_nil]; omega) rfl fun v2_1 oz2_1 ho2_1 => ?_
  refine Zy (0) (j := 0) (Uu 27) (Uz 25) rfl rfl (by omega) (by omega) rfl ?_
  refine z2a (i := 0) (Uz 25) rfl rfl (z5 ho2_1.shows) rfl (by omega) (.inl rfl) ?_
  refine Qn<|Qr ?_
  exact ⟨rfl, _, _, (by first | exact ⟨rfl, _, rfl, zw ho2_1 (by rw [Zd]; simp only [List.length_cons, List.length_nil]; omega) rfl⟩ | exact ⟨rfl, _, rfl, zw ho2_1 (by rw [Zd]) (by rw [z0X, if_neg hn0]; simp [iis])⟩), rfl, (by first | exact .inr ⟨2, _, by decide, by decide, rfl, rfl, rfl⟩ | (rcases hw2_1 with ⟨rfl, hid, rfl⟩ | ⟨rfl, rfl⟩; exact .inl ⟨rfl, hid⟩; exact .inr ⟨3, _, by decide, by decide, rfl, rfl, rfl⟩))⟩
 ·intro hc0
  have hn0 : ¬ n = 0 := by have := of_decide_eq_false hc0; omega
  refine Qk<|Qp<|(ga) ?_
  refine yy (q := 1) rfl rfl rfl (by omega) (by omega) ?_
  refine (ga) ?_
  refine yy (q := 1) rfl rfl rfl (by omega) (by omega) ?_
  refine Zy (n - 1) (Uu 27) (Uz 25) rfl rfl (by omega) (by omega) rfl ?_
  refine yg (i := 0) (Uu 25) rfl rfl rfl (yB (by omega)) rfl ⟨[], trivial⟩ ?_
  refine zu 2 #[ii 7] (Uu 25 rfl) (Uz 3 rfl) (Ub 3 rfl) (by decide) (by decide) rfl (by kernel_rfl) rfl fun r3 => ?_
  refine zas 1 3 hR (yX _ _ (by rfl)) rfl (zY 2 rfl ⟨[], trivial⟩) (Uu 25) (Uz 3) (Uy 3) (Ub 3) (by rfl) rfl rfl (z4A 7) (by simp only [maxLen]; omega) (by omega) rfl fun v2_1 oi2_1 oj2_1 oz2_1 ho2_1 hw2_1 => ?_
  refine Zy (n - 1) (Uu 27) (Uz 25) rfl rfl (by omega) (by omega) rfl ?_
  refine z2a (i := 0) (Uz 25) rfl rfl (z5 ho2_1.shows) rfl (by omega) (.inl rfl) ?_
  refine Qn ?_
  exact ⟨rfl, _, _, (by first | exact ⟨rfl, _, rfl, zw ho2_1 (by rw [Zd]; simp only [List.length_cons, List.length_nil]; omega) rfl⟩ | exact ⟨rfl, _, rfl, zw ho2_1 (by rw [Zd]) (by rw [z0X, if_neg hn0]; simp [iis])⟩), rfl, (by first | exact .inr ⟨2, _, by decide, by decide, rfl, rfl, rfl⟩ | (rcases hw2_1 with ⟨rfl, hid, rfl⟩ | ⟨rfl, rfl⟩; exact .inl ⟨rfl, hid⟩; exact .inr ⟨3, _, by decide, by decide, rfl, rfl, rfl⟩))⟩
theorem zdh (l : LN) (hl : By l) (h0 : Za l ≠ []) : Fq G [] 75 #[sv l] (fun v l1 nw => l1 = [] ∧ ∃ os, nw = yz os ∧ ∃ v', v = .tuple #[v', .bool true] ∧ z4C 3 25 l (decide (l = nXF)) (bQ l 0) (bQ l 1) (bU l) v' os) := by
 refine zom (n := 76) Tryz.func75 rfl rfl (by simp) (xM [sv l] 0) (yi _) ?_
 refine (g4)<|(QH 0) fun r1=>(g3)<|(g4)<|(QH 1) fun r2=>Qn<|(gc)<|Qn<|Qb<|(g4) ?_
 refine xt (k := [78, 78]) rfl rfl rfl hl (by decide) ?_
 refine (g3) ?_
 refine ze rfl ?_ ?_
 ·intro hc0
  obtain rfl : l = nNN := of_decide_eq_true hc0
  refine (g4)<|(Qf 0)<|(QtV 1 0)<|Qn<|Qp ?_
  refine zu 2 #[ii 1] (Uu 25 rfl) (Uz 3 rfl) (Ub 3 rfl) (by decide) (by decide) rfl (by kernel_rfl) rfl fun r3 => ?_
  refine zu 3 #[ii 1, ii 3] (Uu 25 rfl) (Uz 3 rfl) (Ub 3 rfl) (by decide) (by decide) rfl (by kernel_rfl) rfl fun r4 => ?_
  refine zu 4 #[slv r3 1, slv r4 2] (Uu 27 rfl) (Uz 25 rfl) (Ub 25 rfl) (by decide) (by decide) rfl (V6 (by simp) rfl rfl) rfl fun r5 => ?_
  refine (Qf 5)<|(QtV 1 5)<|(gg)<|(QD 1)<|(QW 0)<|(gh) ?_
  exact ⟨_, _, _, _, [90, 91, 2, 3, 92, 4], rfl, yb 0, yt, (by rw [z1M.1, z1M.2.1, z1M.2.2]; exact YZ [1] [1, 3] (ym _ _) (ym _ _) (by decide) (by decide)), by decide, rfl⟩
 ·intro hc0
  have hn0 := of_decide_eq_false hc0
  refine (g4) ?_
  refine xt (k := [78, 75]) rfl rfl rfl hl (by decide) ?_
  refine (g3) ?_
  refine ze rfl ?_ ?_
  ·intro hc1
   obtain rfl : l = nNK := of_decide_eq_true hc1
   refine (g4)<|(Qf 0)<|(QtV 1 0)<|(gg) ?_
   refine zu 2 #[ii 2] (Uu 25 rfl) (Uz 3 rfl) (Ub 3 rfl) (by decide) (by decide) rfl (by kernel_rfl) rfl fun r3 => ?_
   refine (Qf 3)<|(QA 4 1)<|(QtV 1 4)<|Qn<|Qp ?_
   refine zu 3 #[ii 1, ii 4] (Uu 25 rfl) (Uz 3 rfl) (Ub 3 rfl) (by decide) (by decide) rfl (by kernel_rfl) rfl fun r4 => ?_
   refine zu 4 #[ii 1, ii 3] (Uu 25 rfl) (Uz 3 rfl) (Ub 3 rfl) (by decide) (by decide) rfl (by kernel_rfl) rfl fun r5 => ?_
   refine zu 5 #[slv r4 2, slv r5 2] (Uu 27 rfl) (Uz 25 rfl) (Ub 25 rfl) (by decide) (by decide) rfl (V6 (by simp) rfl rfl) rfl fun r6 => ?_
   refine (Qf 5)<|(QtV 1 5)<|(gg)<|(QD 1)<|(QW 0)<|(gh) ?_
   exact ⟨_, _, _, _, [90, 2, 3, 4, 92, 5], rfl, yb 0, yt, (by rw [z1K.1, z1K.2.1, z1K.2.2]; exact YZ [1, 4] [1, 3] (ym _ _) (w5 3 r3 [2] (by decide)) (by decide) (by decide)), by decide, rfl⟩
  ·intro hc1
   have hn1 := of_decide_eq_false hc1
   refine (g4) ?_
   refine xt (k := [88, 88]) rfl rfl rfl hl (by decide) ?_
   refine (g3) ?_
   refine ze rfl ?_ ?_
   ·intro hc2
    obtain rfl : l = nXX := of_decide_eq_true hc2
    refine (g4)<|(Qf 0)<|(QtV 1 0)<|Qn<|Qp ?_
    refine zu 2 #[ii 1] (Uu 25 rfl) (Uz 3 rfl) (Ub 3 rfl) (by decide) (by decide) rfl (by kernel_rfl) rfl fun r3 => ?_
    refine zu 3 #[ii 1, ii 3, ii 2, ii 4] (Uu 25 rfl) (Uz 3 rfl) (Ub 3 rfl) (by decide) (by decide) rfl (by kernel_rfl) rfl fun r4 => ?_
    refine zu 4 #[ii 2, ii 5] (Uu 25 rfl) (Uz 3 rfl) (Ub 3 rfl) (by decide) (by decide) rfl (by kernel_rfl) rfl fun r5 => ?_
    refine zu 5 #[slv r3 1, slv r4 4, slv r5 2] (Uu 27 rfl) (Uz 25 rfl) (Ub 25 rfl) (by decide) (by decide) rfl (zk7 (by simp) rfl rfl rfl) rfl fun r6 => ?_
    refine (Qf 5)<|(QtV 1 5)<|(gg)<|(QD 1)<|(QW 0)<|(gh) ?_
    exact ⟨_, _, _, _, [90, 91, 2, 3, 4, 5], rfl, yb 0, yt, (by rw [z1R.1, z1R.2.1, z1R.2.2]; exact z0u [1] [1, 3, 2, 4] [2, 5] (ym _ _) (ym _ _) (by decide) (by decide) (by decide)), by decide, rfl⟩
   ·intro hc2
    have hn2 := of_decide_eq_false hc2
    refine (g4) ?_
    refine xt (k := [73, 75]) rfl rfl rfl hl (by decide) ?_
    refine (g3) ?_
    refine ze rfl ?_ ?_
    ·intro hc3
     obtain rfl : l = nIK := of_decide_eq_true hc3
     refine (g4)<|(Qf 0)<|(QtV 1 0)<|(gg) ?_
     refine zu 2 #[ii 2] (Uu 25 rfl) (Uz 3 rfl) (Ub 3 rfl) (by decide) (by decide) rfl (by kernel_rfl) rfl fun r3 => ?_
     refine (Qf 3)<|(QA 4 1)<|(QtV 1 4)<|Qn<|Qp ?_
     refine zu 3 #[ii 1, ii 4, ii 2, ii 6] (Uu 25 rfl) (Uz 3 rfl) (Ub 3 rfl) (by decide) (by decide) rfl (by kernel_rfl) rfl fun r4 => ?_
     refine zu 4 #[ii 1, ii 3, ii 5] (Uu 25 rfl) (Uz 3 rfl) (Ub 3 rfl) (by decide) (by decide) rfl (by kernel_rfl) rfl fun r5 => ?_
     refine zu 5 #[slv r4 4, slv r5 3] (Uu 27 rfl) (Uz 25 rfl) (Ub 25 rfl) (by decide) (by decide) rfl (V6 (by simp) rfl rfl) rfl fun r6 => ?_
     refine (Qf 5)<|(QtV 1 5)<|(gg)<|(QD 1)<|(QW 0)<|(gh) ?_
     exact ⟨_, _, _, _, [90, 2, 3, 4, 92, 5], rfl, yb 0, yt, (by rw [z1B.1, z1B.2.1, z1B.2.2]; exact YZ [1, 4, 2, 6] [1, 3, 5] (ym _ _) (w5 3 r3 [2] (by decide)) (by decide) (by decide)), by decide, rfl⟩
    ·intro hc3
     have hn3 := of_decide_eq_false hc3
     refine (g4) ?_
     refine xt (k := [88, 75]) rfl rfl rfl hl (by decide) ?_
     refine (g3) ?_
     refine ze rfl ?_ ?_
     ·intro hc4
      obtain rfl : l = nXK := of_decide_eq_true hc4
      refine (g4)<|(Qf 0)<|(QtV 1 0)<|(gg) ?_
      refine zu 2 #[ii 2] (Uu 25 rfl) (Uz 3 rfl) (Ub 3 rfl) (by decide) (by decide) rfl (by kernel_rfl) rfl fun r3 => ?_
      refine (Qf 3)<|(QA 4 1)<|(QtV 1 4)<|Qn<|Qp ?_
      refine zu 3 #[ii 1, ii 4] (Uu 25 rfl) (Uz 3 rfl) (Ub 3 rfl) (by decide) (by decide) rfl (by kernel_rfl) rfl fun r4 => ?_
      refine zu 4 #[ii 1, ii 3] (Uu 25 rfl) (Uz 3 rfl) (Ub 3 rfl) (by decide) (by decide) rfl (by kernel_rfl) rfl fun r5 => ?_
      refine zu 5 #[ii 2, ii 5] (Uu 25 rfl) (Uz 3 rfl) (Ub 3 rfl) (by decide) (by decide) rfl (by kernel_rfl) rfl fun r6 => ?_
      refine zu 6 #[slv r4 2, slv r5 2, slv r6 2] (Uu 27 rfl) (Uz 25 rfl) (Ub 25 rfl) (by decide) (by decide) rfl (zk7 (by simp) rfl rfl rfl) rfl fun r7 => ?_
      refine (Qf 5)<|(QtV 1 5)<|(gg)<|(QD 1)<|(QW 0)<|(gh) ?_
      exact ⟨_, _, _, _, [90, 2, 3, 4, 5, 6], rfl, yb 0, yt, (by rw [z1m.1, z1m.2.1, z1m.2.2]; exact z0u [1, 4] [1, 3] [2, 5] (ym _ _) (w5 3 r3 [2] (by decide)) (by decide) (by decide) (by decide)), by decide, rfl⟩
     ·intro hc4
      have hn4 := of_decide_eq_false hc4
      refine (g4) ?_
      refine xt (k := [75, 75]) rfl rfl rfl hl (by decide) ?_
      refine (g3) ?_
      refine ze rfl ?_ ?_
      ·intro hc5
       obtain rfl : l = nKK := of_decide_eq_true hc5
       refine (g4)<|(Qf 0)<|(QtV 1 0)<|(gg) ?_
       refine zu 2 #[ii 2] (Uu 25 rfl) (Uz 3 rfl) (Ub 3 rfl) (by decide) (by decide) rfl (by kernel_rfl) rfl fun r3 => ?_
       refine zu 3 #[ii 2] (Uu 25 rfl) (Uz 3 rfl) (Ub 3 rfl) (by decide) (by decide) rfl (by kernel_rfl) rfl fun r4 => ?_
       refine yG (zO 2 (fun i => if i = 0 then slv r3 1 else slv r4 1)) (Ub 26 rfl) (Uu 26 rfl) (Uz 25 rfl) rfl (V6 (by rfl) rfl rfl) rfl ?_
       refine (Qf 3) ?_
       refine zfZ (i := 1) (Uz 26) rfl rfl (fun j hj => by rcases (by omega : j = 0 ∨ j = 1) with rfl | rfl <;> rfl) rfl (by decide) (.inl rfl) ?_
       refine xQ (c' := (zr 6 [pV (sv nKK), pV (.bool false), pV zV, pV (slv r3 1), pV (slv r4 1), pV zV])) (yq fun j hj => by rcases (by omega : j = 0 ∨ j = 1 ∨ j = 2 ∨ j = 3 ∨ j = 4 ∨ j = 5) with rfl | rfl | rfl | rfl | rfl | rfl <;> rfl) ?_
       refine Qn<|Qp ?_
       refine zu 4 #[ii 1, ii 4, ii 6] (Uu 25 rfl) (Uz 3 rfl) (Ub 3 rfl) (by decide) (by decide) rfl (by kernel_rfl) rfl fun r5 => ?_
       refine zu 5 #[ii 1, ii 3, ii 5] (Uu 25 rfl) (Uz 3 rfl) (Ub 3 rfl) (by decide) (by decide) rfl (by kernel_rfl) rfl fun r6 => ?_
       refine zu 6 #[slv r5 3, slv r6 3] (Uu 27 rfl) (Uz 25 rfl) (Ub 25 rfl) (by decide) (by decide) rfl (V6 (by simp) rfl rfl) rfl fun r7 => ?_
       refine (Qf 5)<|(QtV 1 5)<|(gg)<|(QD 1)<|(QW 0)<|(gh) ?_
       exact ⟨_, _, _, _, [2, 3, 4, 5, 92, 6], rfl, yb 0, yt, (by rw [z0J.1, z0J.2.1, z0J.2.2]; exact YZ [1, 4, 6] [1, 3, 5] (w5 3 r3 [2] (by decide)) (w5 3 r4 [2] (by decide)) (by decide) (by decide)), by decide, rfl⟩
      ·intro hc5
       have hn5 := of_decide_eq_false hc5
       refine (g4) ?_
       refine xt (k := [88, 88, 102, 97, 108, 108, 98, 97, 99, 107]) rfl rfl rfl hl (by decide) ?_
       refine (g3) ?_
       refine ze rfl ?_ ?_
       ·intro hc6
        obtain rfl : l = nXF := of_decide_eq_true hc6
        refine (g4)<|(Qf 0)<|(QtV 1 0)<|(Qf 1)<|(QtV 1 1)<|(gg) ?_
        refine zu 2 #[ii 1] (Uu 25 rfl) (Uz 3 rfl) (Ub 3 rfl) (by decide) (by decide) rfl (by kernel_rfl) rfl fun r3 => ?_
        refine (Qf 3)<|(QA 3 0)<|(QtV 1 3)<|Qn<|Qp ?_
        refine zu 3 #[ii 1, ii 3, ii 2, ii 4] (Uu 25 rfl) (Uz 3 rfl) (Ub 3 rfl) (by decide) (by decide) rfl (by kernel_rfl) rfl fun r4 => ?_
        refine zu 4 #[ii 2, ii 5] (Uu 25 rfl) (Uz 3 rfl) (Ub 3 rfl) (by decide) (by decide) rfl (by kernel_rfl) rfl fun r5 => ?_
        refine zu 5 #[slv r4 4, slv r5 2] (Uu 27 rfl) (Uz 25 rfl) (Ub 25 rfl) (by decide) (by decide) rfl (V6 (by simp) rfl rfl) rfl fun r6 => ?_
        refine (Qf 5)<|(QtV 1 5)<|(gg)<|(QD 1)<|(QW 0)<|(gh) ?_
        exact ⟨_, _, _, _, [2, 91, 3, 4, 92, 5], rfl, yb 0, yt, (by rw [z1I.1, z1I.2.1, z1I.2.2]; exact YZ [1, 3, 2, 4] [2, 5] (w5 3 r3 [1] (by decide)) (ym _ _) (by decide) (by decide)), by decide, rfl⟩
       ·intro hc6
        have hn6 := of_decide_eq_false hc6
        exact absurd (zdb hn0 hn1 hn2 hn3 hn4 hn5 hn6) h0
theorem WA (l : LN) (v : Value) (ps : List Int) (hl : By l) (hv : Shows G 1 v ps.length (ps.map iv)) (hz : ps.length ≤ 9223372036854775807) (he : (wP l ps).1 = 0) : Fq G [] 47 #[sv l, v] (fun w l1 nw => l1 = [] ∧ ∃ w', w = .tuple #[w', ii 0] ∧ Z3 l (decide (l = nXF)) ps (wq l ps 0) (wq l ps 1) (wt l ps) w' nw) := by
 obtain ⟨h0, hps4, _⟩ := YY he
 have hpc : z10 (bU l).length ps = 0 := by rw [(z1X h0).1, ← z1J h0]; exact he
 obtain ⟨hp4, hpb⟩ := z2b hpc
 obtain ⟨hw1, hw2, hw3⟩ := zbg he
 rw [hw1, hw2, hw3]
 obtain ⟨_, hb2, hb3, hb4⟩ := z1X h0
 refine zf1 (n := 44) Tryz.func47 rfl rfl (by simp) (xM [sv l, v] 0) (yi _) ?_
 refine (g4)<|(QH 0) fun r1=>(g3)<|Qs<|QR ⟨[], 4, [], none, none⟩<|(Qm) ?_
 refine ziN 50 rfl rfl (Un 75) zo (zdh l hl h0) (zcj 3 25 l (decide (l = nXF)) (bQ l 0) (bQ l 1) (bU l) (.bool true) (by have := (zgX h0).1; omega) (by have := (zgX h0).2; omega) (fun q hq => by have := (z1X h0).2.2.2 q hq; omega) (by have := (z1X h0).2.1; have := (z1X h0).2.2.1; omega)) rfl rfl fun v1_1 os1_1 hO1_1 => ?_
 obtain ⟨v9, rfl, va, vb, TF, oa, ob, o0, o1, o2, rT, rfl, rfl, hA, hB, hR⟩ := hO1_1
 simp only [zjN]
 refine (ge)<|(QH 1) fun r2=>?_
 refine z7 (i := 1) (Uz 29) rfl rfl (z3 _ _) (Zw rfl (z5 hA.shows) (z5 hB.shows) rfl) rfl z8 (.inl rfl) ?_
 refine (gx)<|(Q0)<|(gp)<|(gc)<|(Qf 5)<|(QV 5 1) ?_
 refine z3Y (Uu 27) rfl rfl rfl ?_
 refine (Av (ii (bU l).length)) ?_
 refine (Ca (zdN v ps (bU l).length hv hz)) ?_
 refine (Ai hpc)<|(gj)<|(QN) ?_
 refine (Ab (decide_eq_false (by decide)))<|(gp)<|(g4) ?_
 refine Zc 2 (Uu 25 rfl) (Uz 3 rfl) rfl fun r3 => ?_
 refine (Qm) ?_
 refine x9 2 YW hv rfl zo (Uu 25) (Uz 3) (Uy 3) (Ub 3) (by rfl) rfl rfl z1p (by simp only [maxLen]; omega) (by omega) rfl fun v3_2 oz3_2 ho3_2 => ?_
 refine (Qf 2) ?_
 refine z0Z (i := 1) 2 (Uz 25) rfl rfl (z5 ho3_2.shows) rfl rfl (by decide) (.inl rfl) ?_
 refine Qn<|(gc)<|(QC hv)<|(Qm)<|Qn<|Qb ?_
 refine QzK [(4, _), (5, _), (6, _), (32, _), (33, _)] [(0, _), (1, _), (2, oz3_2), (50, oa), (51, ob)] (fun kk E m => ∃ (i : Nat) (TF1 : Nat → Value) (p0 : Option Blk) (p1 : Option Blk) (p2 : Option Blk), kk = ps.length - i ∧ E = [(34, ii i)] ∧ m = [(52, p0), (53, p1), (54, p2), (55, (some ⟨rT, zO (bU l).length TF1, 25⟩))] ∧ (i ≤ ps.length) ∧ (WT 3 TF1 ((ps.take i).foldl wn (bU l)) p0 p1 p2) ∧ (∀ q ∈ (ps.take i).foldl wn (bU l), q.length ≤ 4 + i)) ⟨0, TF, o0, o1, o2, rfl, rfl, rfl, by omega, (by rw [List.take_zero]; exact hR), (by rw [List.take_zero]; exact hb4)⟩ ⟨rfl, rfl, rfl, rfl, rfl, rfl, trivial⟩ ⟨rfl, rfl, rfl, rfl, rfl, rfl, rfl, rfl, rfl, trivial⟩ ?_
 rintro kk E m ⟨i, TF1, p0, p1, p2, rfl, rfl, rfl, hf0_0, hf0_1, hf0_2⟩
 simp only [zB, zA]
 refine (gt) ?_
 refine (Qcd) (fun hc2=>?_) fun hc2=>?_
 ·have hc2 : i < ps.length := by omega
  refine Qk<|Qs<|Qb<|(g4) ?_
  refine xf hv (Uu 25) (Uz 3) rfl rfl (by omega) rfl ?_
  refine (QS) ?_
  obtain ⟨n9, hn9⟩ : ∃ n9 : Nat, ps.getD i 0 = (n9 : Int) := ⟨(ps.getD i 0).toNat, by have := hpb i (by omega); omega⟩
  refine yc hv zo (Uu 3) rfl rfl (z1v (by omega)) rfl ?_
  refine zi (show _ = ii n9 from congrArg (Value.int .i64) hn9) ?_
  refine (g3) ?_
  have hnb : n9 ≤ (bU l).length := by have := hpb i (by omega); omega
  have hrl := zi9 hf0_2 (n9 - 1)
  rcases (by omega : n9 - 1 = 0 ∨ n9 - 1 = 1 ∨ n9 - 1 = 2) with hr | hr | hr
  ·skip
   refine QR ⟨[], 5, [], none, none⟩ ?_
   have hRr : OwnS 3 1 (TF1 (n9 - 1)) (((ps.take i).foldl wn (bU l)).getD (n9 - 1) []).length (iis (((ps.take i).foldl wn (bU l)).getD (n9 - 1) [])) p0.toList := by (have h9 := hf0_1 (n9 - 1) (by rw [Xk]; omega)); rw [show ox p0 p1 p2 (n9 - 1) = p0 by rw [hr]; rfl] at h9; exact h9
   refine (Qf 5)<|(QV 5 1)<|(Qm) ?_
   refine z4w 55 52 rfl rfl (Un 77) rfl rfl (by decide) (fun z hz => .inl hz) (fun hne => V0 (G := G) rT (bU l).length n9 TF1 (((ps.take i).foldl wn (bU l)).getD (n9 - 1) []) p0 hRr (by omega) (by omega) (by omega) hne) (fun m' => by obtain ⟨w, oz, h1, h2⟩ := Xr m' 3 (z0X n9 (((ps.take i).foldl wn (bU l)).getD (n9 - 1) [])) (by rw [Zd]; omega); exact ⟨_, _, oz, ⟨rfl, w, rfl, h1⟩, h2⟩) rfl rfl fun v5_3 c5_3 oz5_3 hS5_3 => ?_
   obtain ⟨rfl, w9, rfl, ho9⟩ := hS5_3
   refine Qn<|(go) ?_
   refine QzL ⟨i + 1, _, _, _, _, rfl, rfl, rfl, by omega, (by (have h9 := z0r (j := n9 - 1) hf0_1 (by omega) ho9); rw [if_pos hr, if_neg (by omega), if_neg (by omega)] at h9; rw [vT (by omega), hn9, Vj]; exact h9), (fun q hq => by rw [vT (by omega)] at hq; have := z0U hf0_2 q hq; omega)⟩ ⟨rfl, rfl, rfl, rfl, rfl, rfl, trivial⟩ ⟨rfl, rfl, rfl, rfl, rfl, rfl, rfl, rfl, rfl, trivial⟩ ?_
   omega
  ·skip
   refine QR ⟨[], 5, [], none, none⟩ ?_
   have hRr : OwnS 3 1 (TF1 (n9 - 1)) (((ps.take i).foldl wn (bU l)).getD (n9 - 1) []).length (iis (((ps.take i).foldl wn (bU l)).getD (n9 - 1) [])) p1.toList := by (have h9 := hf0_1 (n9 - 1) (by rw [Xk]; omega)); rw [show ox p0 p1 p2 (n9 - 1) = p1 by rw [hr]; rfl] at h9; exact h9
   refine (Qf 5)<|(QV 5 1)<|(Qm) ?_
   refine z4w 55 53 rfl rfl (Un 77) rfl rfl (by decide) (fun z hz => .inl hz) (fun hne => V0 (G := G) rT (bU l).length n9 TF1 (((ps.take i).foldl wn (bU l)).getD (n9 - 1) []) p1 hRr (by omega) (by omega) (by omega) hne) (fun m' => by obtain ⟨w, oz, h1, h2⟩ := Xr m' 3 (z0X n9 (((ps.take i).foldl wn (bU l)).getD (n9 - 1) [])) (by rw [Zd]; omega); exact ⟨_, _, oz, ⟨rfl, w, rfl, h1⟩, h2⟩) rfl rfl fun v5_3 c5_3 oz5_3 hS5_3 => ?_
   obtain ⟨rfl, w9, rfl, ho9⟩ := hS5_3
   refine Qn<|(go) ?_
   refine QzL ⟨i + 1, _, _, _, _, rfl, rfl, rfl, by omega, (by (have h9 := z0r (j := n9 - 1) hf0_1 (by omega) ho9); rw [if_neg (by omega), if_pos hr, if_neg (by omega)] at h9; rw [vT (by omega), hn9, Vj]; exact h9), (fun q hq => by rw [vT (by omega)] at hq; have := z0U hf0_2 q hq; omega)⟩ ⟨rfl, rfl, rfl, rfl, rfl, rfl, trivial⟩ ⟨rfl, rfl, rfl, rfl, rfl, rfl, rfl, rfl, rfl, trivial⟩ ?_
   omega
  ·skip
   refine QR ⟨[], 5, [], none, none⟩ ?_
   have hRr : OwnS 3 1 (TF1 (n9 - 1)) (((ps.take i).foldl wn (bU l)).getD (n9 - 1) []).length (iis (((ps.take i).foldl wn (bU l)).getD (n9 - 1) [])) p2.toList := by (have h9 := hf0_1 (n9 - 1) (by rw [Xk]; omega)); rw [show ox p0 p1 p2 (n9 - 1) = p2 by rw [hr]; rfl] at h9; exact h9
   refine (Qf 5)<|(QV 5 1)<|(Qm) ?_
   refine z4w 55 54 rfl rfl (Un 77) rfl rfl (by decide) (fun z hz => .inl hz) (fun hne => V0 (G := G) rT (bU l).length n9 TF1 (((ps.take i).foldl wn (bU l)).getD (n9 - 1) []) p2 hRr (by omega) (by omega) (by omega) hne) (fun m' => by obtain ⟨w, oz, h1, h2⟩ := Xr m' 3 (z0X n9 (((ps.take i).foldl wn (bU l)).getD (n9 - 1) [])) (by rw [Zd]; omega); exact ⟨_, _, oz, ⟨rfl, w, rfl, h1⟩, h2⟩) rfl rfl fun v5_3 c5_3 oz5_3 hS5_3 => ?_
   obtain ⟨rfl, w9, rfl, ho9⟩ := hS5_3
   refine Qn<|(go) ?_
   refine QzL ⟨i + 1, _, _, _, _, rfl, rfl, rfl, by omega, (by (have h9 := z0r (j := n9 - 1) hf0_1 (by omega) ho9); rw [if_neg (by omega), if_neg (by omega), if_pos hr] at h9; rw [vT (by omega), hn9, Vj]; exact h9), (fun q hq => by rw [vT (by omega)] at hq; have := z0U hf0_2 q hq; omega)⟩ ⟨rfl, rfl, rfl, rfl, rfl, rfl, trivial⟩ ⟨rfl, rfl, rfl, rfl, rfl, rfl, rfl, rfl, rfl, trivial⟩ ?_
   omega
 ·have hz0 : i = ps.length := by omega
  refine Qe<|(g4)<|(QD 1) ?_
  refine xJ 2 [(0, _), (1, _), (50, _), (51, _), (52, _), (53, _), (54, _), (55, _)] rfl rfl (by repeat (first | exact zq | exact zj _ | apply zg rfl)) ⟨rfl, rfl, rfl, rfl, rfl, rfl, rfl, rfl, trivial⟩ rfl rfl ?_
  simp only [zA]
  refine xJ 50 [(0, _), (1, _), (51, _), (52, _), (53, _), (54, _), (55, _)] rfl rfl (by repeat (first | exact zq | exact zj _ | apply zg rfl)) ⟨rfl, rfl, rfl, rfl, rfl, rfl, rfl, trivial⟩ rfl rfl ?_
  simp only [zA]
  refine xJ 51 [(0, _), (1, _), (52, _), (53, _), (54, _), (55, _)] rfl rfl (by repeat (first | exact zq | exact zj _ | apply zg rfl)) ⟨rfl, rfl, rfl, rfl, rfl, rfl, trivial⟩ rfl rfl ?_
  simp only [zA]
  refine xJ 52 [(0, _), (1, _), (53, _), (54, _), (55, _)] rfl rfl (by repeat (first | exact zq | exact zj _ | apply zg rfl)) ⟨rfl, rfl, rfl, rfl, rfl, trivial⟩ rfl rfl ?_
  simp only [zA]
  refine xJ 53 [(0, _), (1, _), (54, _), (55, _)] rfl rfl (by repeat (first | exact zq | exact zj _ | apply zg rfl)) ⟨rfl, rfl, rfl, rfl, trivial⟩ rfl rfl ?_
  simp only [zA]
  refine xJ 54 [(0, _), (1, _), (55, _)] rfl rfl (by repeat (first | exact zq | exact zj _ | apply zg rfl)) ⟨rfl, rfl, rfl, trivial⟩ rfl rfl ?_
  simp only [zA]
  refine xJ 55 [(0, _), (1, _)] rfl rfl (by repeat (first | exact zq | exact zj _ | apply zg rfl)) ⟨rfl, rfl, trivial⟩ rfl rfl ?_
  simp only [zA]
  refine z7 (i := 0) (Uz 29) rfl rfl (z3 _ _) (Zw (z5 ho3_2.shows) (z5 hA.shows) (z5 hB.shows) rfl) rfl z8 (.inl rfl) ?_
  refine (gh) ?_
  exact ⟨_, _, _, ((((((([] ++ oz3_2.toList) ++ oa.toList) ++ ob.toList) ++ p0.toList) ++ p1.toList) ++ p2.toList) ++ (some ⟨rT, zO (bU l).length TF1, 25⟩).toList), rfl, yb 0, yt, (by (have hR9 := hf0_1); rw [hz0, List.take_length] at hR9; exact zgJ (zw ho3_2 (Nat.zero_add _) rfl) hA hB hR9 (by rw [Xk]) (by intro o ho x hx; simp only [List.mem_cons, List.not_mem_nil, or_false] at ho; rcases ho with rfl | rfl | rfl | rfl | rfl | rfl <;> repeat (first | exact List.mem_append_right _ hx | apply List.mem_append_left)) (List.mem_append_right _ (List.mem_singleton.2 rfl))), (by repeat (first | exact zq | exact zj _ | apply zg rfl))⟩
theorem ziq (n : LN) (m : Int) (hn8 : By n) (hz : n.length < 4294967281) (hb : Xx n = false) (hi : ixp (zQ n) = none) (he : (wP (zQ n) []).1 = 0) : Fq (MLB m :: G) [] 23 #[sv n] (fun w l1 nw => l1 = [] ∧ ∃ w', w = .tuple #[w', ii 0] ∧ YM (zQ n) (decide ((zQ n) = nXF)) [] (wq (zQ n) (ci []) 0) (wq (zQ n) (ci []) 1) (wt (zQ n) (ci [])) w' nw) := by
 have hmid : ∀ b ∈ zQ n, b < 256 := fun b hb => hn8 b (List.mem_of_mem_drop (List.mem_of_mem_take hb))
 have hml : (zQ n).length ≤ n.length := by unfold zQ; simp; omega
 have hcl := ZQ n hdN
 refine zf1 (n := 21) Tryz.func23 rfl rfl (by simp) (xM [sv n] 0) (yi _) ?_
 refine (g4)<|(QH 0) fun r1=>(gj) ?_
 refine (Ca (z7a n m hn8 hz hb hi))<|(ge)<|(Qx)<|(Qa)<|(gv)<|(Q0)<|(gp)<|Qs<|QR ⟨[], 4, [], none, none⟩<|(ga) ?_
 refine yf [(0, _)] (by repeat (first | exact zq | exact zj _ | apply zg rfl)) ⟨rfl, trivial⟩ rfl rfl rfl (Un 47) zo (WA (G := (MLB m :: G)) (zQ n) zV [] hmid (.inl ⟨rfl, rfl, none, 0, rfl, fun _ => rfl⟩) (by simp) he) (vZ (zQ n) (decide ((zQ n) = nXF)) [] (wq (zQ n) [] 0) (wq (zQ n) [] 1) (wt (zQ n) [])) rfl rfl fun v2_1 nw2_1 hD2_1 => ?_
 simp only [zA]
 obtain ⟨_, rfl, vp1, hp1, va1, vb1, vt1, tv1, rfl, ha1, hb1, ht1, hn1, hl1⟩ := hD2_1
 refine (g9) ?_
 refine z7 (i := 0) (Uz 29) rfl rfl (z3 _ _) (Zw (z5 hp1) (z5 ha1) (z5 hb1) (z5 ht1)) rfl z8 (.inl rfl) ?_
 refine (gh) ?_
 exact ⟨_, _, _, ([] ++ nw2_1), rfl, yb 0, yt, (z4y ⟨vp1, hp1, va1, vb1, vt1, tv1, rfl, ha1, hb1, ht1, hn1, hl1⟩), (by repeat (first | exact zq | exact zj _ | apply zg rfl))⟩
theorem zia (n : LN) (m : Int) (hn8 : By n) (hz : n.length < 4294967281) (hb : Xx n = false) (i : Nat) (hi : ixp (zQ n) = some i) (ds : LN) (hal : xx (yl ((zQ n).drop i) 43) = some ds) (he : (wP ((zQ n).take i) (ci ds)).1 = 0) : Fq (MLB m :: G) [] 23 #[sv n] (fun w l1 nw => l1 = [] ∧ ∃ w', w = .tuple #[w', ii 0] ∧ YM ((zQ n).take i) (decide (((zQ n).take i) = nXF)) ds (wq ((zQ n).take i) (ci ds) 0) (wq ((zQ n).take i) (ci ds) 1) (wt ((zQ n).take i) (ci ds)) w' nw) := by
 have hmid : ∀ b ∈ zQ n, b < 256 := fun b hb => hn8 b (List.mem_of_mem_drop (List.mem_of_mem_take hb))
 have hml : (zQ n).length ≤ n.length := by unfold zQ; simp; omega
 have hcl := ZQ n hdN
 have ht5 : ds.take 5 = ds := zdW he
 refine zf1 (n := 21) Tryz.func23 rfl rfl (by simp) (xM [sv n] 0) (yi _) ?_
 refine (g4)<|(QH 0) fun r1=>(g3)<|Qs<|QR ⟨[], 4, [], none, none⟩<|(Qm) ?_
 refine zK 1 (fun v => .tuple #[sv ((zQ n).take i), v, .bool true]) rfl rfl (Un 54) zo (zfs n m hn8 hz hb i hi ds hal) (by simp only [maxLen, List.length_take]; omega) (by rw [List.length_map, Nat.mul_one]) rfl rfl fun v1_1 oz1_1 ho1_1 => ?_
 refine (ge)<|(Qx)<|(Qa)<|(gv)<|(Q0)<|(gp)<|Qs<|QR ⟨[], 4, [], none, none⟩<|(ga) ?_
 refine yf [(0, _), (1, _)] (by repeat (first | exact zq | exact zj _ | apply zg rfl)) ⟨rfl, rfl, trivial⟩ rfl rfl rfl (Un 47) (zh (xF 1 rfl ⟨[], trivial⟩) zo) (WA (G := (oz1_1.toList ++ (MLB m :: G))) ((zQ n).take i) v1_1 (ci ds) (fun b hb => hmid b (List.mem_of_mem_take hb)) (by rw [z6o, show (ci ds).length = ds.length by simp [ci]]; rw [ht5] at ho1_1; exact ho1_1.shows.mono (fun x hx => List.mem_append_left _ hx)) (by have := (YY he).2.1; omega) he) (vZ ((zQ n).take i) (decide (((zQ n).take i) = nXF)) (ci ds) (wq ((zQ n).take i) (ci ds) 0) (wq ((zQ n).take i) (ci ds) 1) (wt ((zQ n).take i) (ci ds))) rfl rfl fun v2_2 nw2_2 hD2_2 => ?_
 simp only [zA]
 obtain ⟨_, rfl, vp1, hp1, va1, vb1, vt1, tv1, rfl, ha1, hb1, ht1, hn1, hl1⟩ := hD2_2
 refine (g9) ?_
 refine z7 (i := 0) (Uz 29) rfl rfl (z3 _ _) (Zw (z5 hp1) (z5 ha1) (z5 hb1) (z5 ht1)) rfl z8 (.inl rfl) ?_
 refine (gh) ?_
 exact ⟨_, _, _, ([] ++ nw2_2), rfl, yb 0, yt, (z4y ⟨vp1, hp1, va1, vb1, vt1, tv1, rfl, ha1, hb1, ht1, hn1, hl1⟩), (by repeat (first | exact zq | exact zj _ | apply zg rfl))⟩
theorem zcD (va vb : Value) (a b : List Int) (ha : Shows G 1 va a.length (a.map iv)) (hb : Shows G 1 vb b.length (b.map iv)) (hz : a.length ≤ 9223372036854775807) : Fp G 172 #[va, vb] (.bool (decide (a = b))) := by
 refine Qf1 Tryz.func172 ?_
 refine (gb)<|(gc)<|(QC ha)<|(Qm)<|(QC hb)<|(QN)<|Qn ?_
 refine ze rfl ?_ ?_
 ·intro hc0
  have hne := of_decide_eq_true hc0
  refine (gw) ?_
  first | rw [show decide (a = b) = false from decide_eq_false (fun h => hne (by rw [h]))] | rw [show decide (a = b) = false from decide_eq_false (fun h => hq (by rw [h]))] | rw [show decide (a = b) = true from decide_eq_true (z0P hlen (fun j hj => hf0_1 j (by omega)))]
  exact ⟨_, rfl, yt⟩
 ·intro hc0
  have hlen : a.length = b.length := by have := of_decide_eq_false hc0; omega
  refine Qk<|(gc)<|(QC ha)<|(Qm)<|Qn<|Qb ?_
  refine QzK [(0, _), (1, _), (12, _)] [] (fun kk E m => ∃ (i : Nat), kk = a.length - i ∧ E = [(13, ii i)] ∧ m = [] ∧ (i ≤ a.length) ∧ (∀ j, j < i → a.getD j 0 = b.getD j 0) ∧ (a.length = b.length)) ⟨0, rfl, rfl, rfl, by omega, fun j hj => absurd hj (Nat.not_lt_zero j), hlen⟩ ⟨rfl, rfl, rfl, rfl, trivial⟩ trivial ?_
  rintro kk E m ⟨i, rfl, rfl, rfl, hf0_0, hf0_1, hf0_2⟩
  simp only [zB, zA]
  refine (gt) ?_
  refine (Qcd) (fun hc1=>?_) fun hc1=>?_
  ·have hc1 : i < a.length := by omega
   refine Qk<|Qs<|Qb<|(g5)<|(g3)<|(gy)<|(ga) ?_
   refine xf ha (Uu 25) (Uz 3) rfl rfl (by omega) rfl ?_
   refine (QS) ?_
   refine yc ha zo (Uu 3) rfl rfl (z1v (by omega)) rfl ?_
   refine (ga) ?_
   refine xf hb (Uu 25) (Uz 3) rfl rfl (by omega) rfl ?_
   refine (QS) ?_
   refine yc hb zo (Uu 3) rfl rfl (z1v (by omega)) rfl ?_
   refine (QN)<|Qn ?_
   refine ze rfl ?_ ?_
   ·intro hc2
    have hq := of_decide_eq_true hc2
    refine (gw) ?_
    first | rw [show decide (a = b) = false from decide_eq_false (fun h => hne (by rw [h]))] | rw [show decide (a = b) = false from decide_eq_false (fun h => hq (by rw [h]))] | rw [show decide (a = b) = true from decide_eq_true (z0P hlen (fun j hj => hf0_1 j (by omega)))]
    exact ⟨_, rfl, yt⟩
   ·intro hc2
    have hq : a.getD i 0 = b.getD i 0 := by have := of_decide_eq_false hc2; omega
    refine Qk<|(go) ?_
    refine QzL ⟨i + 1, rfl, rfl, rfl, by omega, fun j hj => by rcases (by omega : j < i ∨ j = i) with h | rfl; exact hf0_1 j h; exact hq, hlen⟩ ⟨rfl, rfl, rfl, rfl, trivial⟩ trivial ?_
    omega
  ·have hz0 : i = a.length := by omega
   refine Qe<|(gw) ?_
   first | rw [show decide (a = b) = false from decide_eq_false (fun h => hne (by rw [h]))] | rw [show decide (a = b) = false from decide_eq_false (fun h => hq (by rw [h]))] | rw [show decide (a = b) = true from decide_eq_true (z0P hlen (fun j hj => hf0_1 j (by omega)))]
   exact ⟨_, rfl, yt⟩
theorem zja (va vb : Value) (vs us : List Value) (la lb : List (List Int)) (ha : Shows G 1 va vs.length vs) (hb : Shows G 1 vb us.length us) (hLa : zF G vs la) (hLb : zF G us lb) (hz : vs.length ≤ 9223372036854775807 ∧ ∀ l ∈ la, l.length ≤ 9223372036854775807) : Fp G 171 #[va, vb, .func (.func 172) #[] #[]] (.bool (decide (la = lb))) := by
 have hla := hLa.1
 have hlb := hLb.1
 have hzv := hz.1
 refine Qf1 Tryz.func171 ?_
 refine (gb)<|(gc)<|(QC ha)<|(Qm)<|(QC hb)<|(QN)<|Qn ?_
 refine ze rfl ?_ ?_
 ·intro hc0
  have hne := of_decide_eq_true hc0
  refine (gw) ?_
  first | rw [show decide (la = lb) = false from decide_eq_false (fun h => hne (by rw [hla, hlb, h]))] | rw [show decide (la = lb) = false from decide_eq_false (fun h => hq (by rw [h]))] | rw [show decide (la = lb) = true from decide_eq_true (Vc (by omega) (fun j hj => hf0_1 j (by omega)))]
  exact ⟨_, rfl, yt⟩
 ·intro hc0
  have hlen : vs.length = us.length := by have := of_decide_eq_false hc0; omega
  refine Qk<|(gc)<|(QC ha)<|(Qm)<|Qn<|Qb ?_
  refine QzK [(1, _), (2, _), (15, _), (16, _)] [] (fun kk E m => ∃ (i : Nat), kk = vs.length - i ∧ E = [(17, ii i)] ∧ m = [] ∧ (i ≤ vs.length) ∧ (∀ j, j < i → la.getD j [] = lb.getD j []) ∧ (vs.length = us.length)) ⟨0, rfl, rfl, rfl, by omega, fun j hj => absurd hj (Nat.not_lt_zero j), hlen⟩ ⟨rfl, rfl, rfl, rfl, rfl, trivial⟩ trivial ?_
  rintro kk E m ⟨i, rfl, rfl, rfl, hf0_0, hf0_1, hf0_2⟩
  simp only [zB, zA]
  refine (gt) ?_
  refine (Qcd) (fun hc1=>?_) fun hc1=>?_
  ·have hc1 : i < vs.length := by omega
   refine Qk<|Qs<|Qb<|(g5) ?_
   refine xf ha (Uu 27) (Uz 25) rfl rfl (by omega) rfl ?_
   refine (QS) ?_
   refine yc ha zo (Uu 25) rfl rfl (xU (by omega)) rfl ?_
   refine (g7)<|(g5)<|(Qm) ?_
   refine xf hb (Uu 27) (Uz 25) rfl rfl (by omega) rfl ?_
   refine (QS) ?_
   refine yc hb zo (Uu 25) rfl rfl (xU (by omega)) rfl ?_
   refine (gj)<|(ga) ?_
   refine zD rfl rfl (Un 172) zo (zcD _ _ (la.getD i []) (lb.getD i []) (hLa.2 i (by omega)) (hLb.2 i (by omega)) (zla hz.2 i)) rfl rfl ?_
   refine (Q0)<|Qn ?_
   refine ze rfl ?_ ?_
   ·intro hc2
    have hq : ¬ la.getD i [] = lb.getD i [] := by simpa using hc2
    refine (gw) ?_
    first | rw [show decide (la = lb) = false from decide_eq_false (fun h => hne (by rw [hla, hlb, h]))] | rw [show decide (la = lb) = false from decide_eq_false (fun h => hq (by rw [h]))] | rw [show decide (la = lb) = true from decide_eq_true (Vc (by omega) (fun j hj => hf0_1 j (by omega)))]
    exact ⟨_, rfl, yt⟩
   ·intro hc2
    have hq : la.getD i [] = lb.getD i [] := by simpa using hc2
    refine Qk<|(go) ?_
    refine QzL ⟨i + 1, rfl, rfl, rfl, by omega, fun j hj => by rcases (by omega : j < i ∨ j = i) with h | rfl; exact hf0_1 j h; exact hq, hlen⟩ ⟨rfl, rfl, rfl, rfl, rfl, trivial⟩ trivial ?_
    omega
  ·have hz0 : i = vs.length := by omega
   refine Qe<|(gw) ?_
   first | rw [show decide (la = lb) = false from decide_eq_false (fun h => hne (by rw [hla, hlb, h]))] | rw [show decide (la = lb) = false from decide_eq_false (fun h => hq (by rw [h]))] | rw [show decide (la = lb) = true from decide_eq_true (Vc (by omega) (fun j hj => hf0_1 j (by omega)))]
   exact ⟨_, rfl, yt⟩
theorem z9l (va vb : Value) (vs us : List Value) (la lb : List (List Int)) (ha : Shows G 1 va vs.length vs) (hb : Shows G 1 vb us.length us) (hLa : zF G vs la) (hLb : zF G us lb) (hz : vs.length ≤ 9223372036854775807 ∧ ∀ l ∈ la, l.length ≤ 9223372036854775807) : Fp G 125 #[va, vb] (.bool (decide (la = lb))) := by
 refine Qf1 Tryz.func125 ?_
 refine (gb)<|(g5)<|(Qm) ?_
 refine (Ca (zja va vb vs us la lb ha hb hLa hLb hz))<|(gh) ?_
 exact ⟨_, rfl, yt⟩
theorem zdS (ba : LN) (la : Bool) (vpa v0a v1a vta : Value) (tva : List Value) (pa q0a q1a : List Int) (ta : List (List Int)) (_hbaz : By ba) (hva : Shows G 1 vta tva.length tva) (hLa : zF G (vpa :: v0a :: v1a :: tva) (pa :: q0a :: q1a :: ta)) (bb : LN) (lb : Bool) (vpb v0b v1b vtb : Value) (tvb : List Value) (pb q0b q1b : List Int) (tb : List (List Int)) (_hbbz : By bb) (hvb : Shows G 1 vtb tvb.length tvb) (hLb : zF G (vpb :: v0b :: v1b :: tvb) (pb :: q0b :: q1b :: tb)) (hza : ta.length ≤ 9223372036854775807 ∧ ∀ l ∈ pa :: q0a :: q1a :: ta, l.length ≤ 9223372036854775807) : Fp G 78 #[.agg (Ya ba la vpa v0a v1a vta), .agg (Ya bb lb vpb v0b v1b vtb)] (.bool ((la == lb) && decide ([q0a, q1a] = [q0b, q1b]) && decide (ta = tb))) := by
 have hTa := zL (zL (zL hLa))
 have hTb := zL (zL (zL hLb))
 refine Qf1 Tryz.func78 ?_
 refine (g4)<|(Qh 0) fun r1=>(Qh 1) fun r2=>(g3)<|(gy) ?_
 refine zW [(0, _), (1, _), (2, _), (3, _)] [(4, .bool ((la == lb) && decide ([q0a, q1a] = [q0b, q1b]) && decide (ta = tb)))] [(0, some _), (1, some _)] ⟨rfl, rfl, rfl, rfl, trivial⟩ ⟨rfl, rfl, trivial⟩ ?_ ?_
 ·skip
  refine (Qf 1)<|(QV 1 0)<|(Qf 1)<|(QV 1 1) ?_
  refine zhh (Uu 4) rfl rfl rfl ?_
  refine (Qm) ?_
  refine zM (b := (la == lb)) (fun hb0 => ?_) (fun hb0 => ?_)
  ·skip
   refine (Qy)<|(Qf 3)<|(Qy)<|(Qsa 0 2)<|(Qy)<|(Qf 3)<|(Qy)<|(Qsa 0 2)<|(Qy) ?_
   refine zD rfl rfl (Un 125) (zh (zY 0 rfl ⟨[], trivial⟩) (zh (zY 1 rfl ⟨[], trivial⟩) zo)) (z9l (G := ((⟨r1, Ya ba la vpa v0a v1a vta, 29⟩ : Blk) :: (⟨r2, Ya bb lb vpb v0b v1b vtb, 29⟩ : Blk) :: G)) _ _ [v0a, v1a] [v0b, v1b] [q0a, q1a] [q0b, q1b] (W2.mono (fun x hx => List.mem_cons.2 (.inl (List.mem_singleton.1 hx)))) (W2.mono (fun x hx => List.mem_cons_of_mem _ (List.mem_cons.2 (.inl (List.mem_singleton.1 hx))))) (yR (z1a (zL hLa)) (fun x hx => List.mem_cons_of_mem _ (List.mem_cons_of_mem _ hx))) (yR (z1a (zL hLb)) (fun x hx => List.mem_cons_of_mem _ (List.mem_cons_of_mem _ hx))) ⟨by simp, fun l hl => hza.2 l (by simp only [List.mem_cons, List.not_mem_nil, or_false] at hl ⊢; rcases hl with rfl | rfl <;> simp)⟩) rfl rfl ?_
   refine (QT)<|(Qm) ?_
   refine zM (b := decide ([q0a, q1a] = [q0b, q1b])) (fun hb1 => ?_) (fun hb1 => ?_)
   ·skip
    refine (Qy)<|(Qf 5)<|(Qy)<|(QV 5 0)<|(Qy)<|(Qf 5)<|(Qy)<|(QV 5 1)<|(Qy) ?_
    refine (Ca (z9l vta vtb tva tvb ta tb hva hvb hTa hTb ⟨by have := hTa.1; have := hza.1; omega, fun l hl => hza.2 l (by simp [hl])⟩))<|(QT)<|(g3) ?_
    exact ⟨⟨rfl, rfl, rfl, rfl, trivial⟩, ⟨zf (by rw [hb0, hb1] <;> rfl), trivial⟩, ⟨rfl, rfl, trivial⟩⟩
   ·skip
    refine (gm)<|(Qo)<|(QF)<|(g3) ?_
    exact ⟨⟨rfl, rfl, rfl, rfl, trivial⟩, ⟨zf (by rw [hb0, hb1] <;> rfl), trivial⟩, ⟨rfl, rfl, trivial⟩⟩
  ·skip
   refine (gm)<|(Qo)<|(QF)<|(Qm)<|(gm)<|(Qo)<|(QF)<|(g3) ?_
   exact ⟨⟨rfl, rfl, rfl, rfl, trivial⟩, ⟨zf (by rw [hb0] <;> rfl), trivial⟩, ⟨rfl, rfl, trivial⟩⟩
 ·simp only [zB]
  refine Qr ?_
  exact ⟨_, rfl, yt⟩
theorem zdM (z : Nat) (hz : z ≤ 9) : Fp G 251 #[ii z] (sv [48 + z]) := by
 refine Qf1 Tryz.func251 ?_
 refine (g4) ?_
 refine y8 (v := sv []) rfl rfl ?_
 refine Qn<|(gc)<|(Ql)<|(Qat)<|Qn<|(Qct)<|(g5)<|(Qm)<|(Q2 1) ?_
 refine zG z (z + 1) (l := [48, 49, 50, 51, 52, 53, 54, 55, 56, 57, 97, 98, 99, 100, 101, 102, 103, 104, 105, 106, 107, 108, 109, 110, 111, 112, 113, 114, 115, 116, 117, 118, 119, 120, 121, 122]) (Uu 9) rfl rfl rfl ⟨_, rfl⟩ ⟨_, rfl⟩ (by omega) (by simp only [List.length_cons, List.length_nil]; omega) rfl ?_
 refine zi (congrArg sv (zlQ hz)) ?_
 refine (gh) ?_
 exact ⟨_, rfl, yt⟩
theorem zcw (z : Nat) (hz : z ≤ 9) : Fp G 223 #[ii z, ii 10] (sv [48 + z]) := by
 refine Qf1 Tryz.func223 ?_
 refine (g4) ?_
 refine y8 (v := sv []) rfl rfl ?_
 refine Qn<|(gc)<|(Qc)<|(Qat)<|Qn<|(Qct)<|(gc)<|(QL)<|(Qat)<|(gk)<|(Ql)<|(Qat)<|(QT)<|Qn<|(Qct)<|(g5) ?_
 refine (Ca (zdM z hz))<|(gh) ?_
 exact ⟨_, rfl, yt⟩
theorem zeJ (z : Nat) (hz : z ≤ 9) : Fp G 173 #[ii z] (sv [48 + z]) := by
 refine Qf1 Tryz.func173 ?_
 refine (g4) ?_
 refine y8 (v := sv []) rfl rfl ?_
 refine Qn<|(g5) ?_
 refine (Ca (zcw z hz))<|(gh) ?_
 exact ⟨_, rfl, yt⟩
theorem zk2 (z : Nat) (hz : z ≤ 9) : Fp G 126 #[ii z] (sv [48 + z]) := by
 refine Qf1 Tryz.func126 ?_
 refine (g4) ?_
 refine y8 (v := sv []) rfl rfl ?_
 refine Qn<|(g5) ?_
 refine (Ca (zeJ z hz))<|(gh) ?_
 exact ⟨_, rfl, yt⟩
theorem zat (b : LN) (v : Value) (ps : List Int) (_hb : By b) (hbl : b.length ≤ 1000) (hv : Shows G 1 v ps.length (ps.map iv)) (h4 : ps.length ≤ 4) (h9 : ∀ i, i < ps.length → 0 ≤ ps.getD i 0 ∧ ps.getD i 0 ≤ 9) : Fp G 79 #[sv b, v] (sv (XF b ps)) := by
 refine Qf1 Tryz.func79 ?_
 refine (g4) ?_
 refine y8 (v := sv []) rfl rfl ?_
 refine Qn<|(gb)<|(gc)<|(QC hv)<|(Qm)<|Qn<|Qb ?_
 refine QzK [(0, _), (4, _), (8, _), (9, _)] [] (fun kk E m => ∃ (i : Nat) (w4 : Value) (oz : Option Blk), kk = ps.length - i ∧ E = [(5, w4), (10, ii i)] ∧ m = [(50, oz)] ∧ (i ≤ ps.length) ∧ (OwnS 9 1 w4 ((ps.take i).map ZT).length (((ps.take i).map ZT).map sv) oz.toList)) ⟨0, zV, none, rfl, rfl, rfl, by omega, (zw (ym _ _) (by simp) (by simp))⟩ ⟨rfl, rfl, rfl, rfl, rfl, rfl, trivial⟩ ⟨rfl, trivial⟩ ?_
 rintro kk E m ⟨i, w4, oz, rfl, rfl, rfl, hf0_0, hf0_1⟩
 simp only [zB, zA]
 have hjl : ((ps.take i).map ZT).length ≤ 4 := by rw [List.length_map, List.length_take]; omega
 refine (gt) ?_
 refine (Qcd) (fun hc0=>?_) fun hc0=>?_
 ·have hc0 : i < ps.length := by omega
  refine Qk<|Qs<|Qb<|(g4) ?_
  refine xf hv (Uu 25) (Uz 3) rfl rfl (by omega) rfl ?_
  refine (QS) ?_
  obtain ⟨z9, hz9⟩ : ∃ z9 : Nat, ps.getD i 0 = (z9 : Int) := ⟨(ps.getD i 0).toNat, by have := h9 i (by omega); omega⟩
  refine yc hv zo (Uu 3) rfl rfl (z1v (by omega)) rfl ?_
  refine zi (show _ = ii z9 from congrArg (Value.int .i64) hz9) ?_
  refine (g3) ?_
  have hz99 : z9 ≤ 9 := by have := h9 i (by omega); omega
  refine Qp<|(ga) ?_
  refine (Ca (zk2 z9 hz99)) ?_
  refine z4m (l := [112, 115, 107]) rfl rfl rfl (by simp only [List.length_cons, List.length_nil]; omega) ?_
  refine zi (congrArg sv (show _ = ZT (ps.getD i 0) by rw [ZT, z6X (h9 i (by omega)).1 (h9 i (by omega)).2, hz9]; rfl)) ?_
  refine zu 0 #[sv (ZT (ps.getD i 0))] (Uu 141 rfl) (Uz 9 rfl) (Ub 9 rfl) (by decide) (by decide) rfl (znu (by simp) rfl) rfl fun r1 => ?_
  refine x9 50 hf0_1 (yX _ _ (by rfl)) rfl (zY 0 rfl ⟨[], trivial⟩) (Uu 141) (Uz 9) (Uy 9) (Ub 9) (by rfl) rfl rfl (by intro u hu; simp at hu; subst hu; rfl) (by simp only [maxLen]; omega) (by omega) rfl fun v2_1 oz2_1 ho2_1 => ?_
  refine (g3)<|(go) ?_
  refine QzL ⟨i + 1, _, _, rfl, rfl, rfl, by omega, (zw ho2_1 (by rw [z6q (by omega), List.length_append]; rfl) (by rw [z6q (by omega), List.map_append]; rfl))⟩ ⟨rfl, rfl, rfl, rfl, rfl, rfl, trivial⟩ ⟨rfl, trivial⟩ ?_
  omega
 ·have hz0 : i = ps.length := by omega
  refine Qe<|(g5) ?_
  refine z4m (l := [78, 111, 105, 115, 101, 95]) rfl rfl rfl (by simp only [List.length_cons, List.length_nil]; omega) ?_
  refine (Qm) ?_
  refine zD rfl rfl (Un 127) (xF 50 rfl ⟨[], trivial⟩) (zhP (G := oz.toList) w4 ((ps.take i).map ZT) hf0_1.shows (by omega) (by rw [hz0, List.take_length, z5L]; have := z0c ps ps.length; omega)) rfl rfl ?_
  refine zi (congrArg sv (show Yo 43 ((ps.take i).map ZT) = pmd ps ps.length by rw [hz0, List.take_length, z5L])) ?_
  refine z4m rfl rfl rfl (by have := z0c ps ps.length; simp only [List.length_append, List.length_cons, List.length_nil]; omega) ?_
  refine z4m (k := [95, 50, 53, 53, 49, 57, 95, 67, 104, 97, 67, 104, 97, 80, 111, 108, 121, 95, 66, 76, 65, 75, 69, 50, 115]) rfl rfl rfl (by have := z0c ps ps.length; simp only [List.length_append, List.length_cons, List.length_nil]; omega) ?_
  refine (gh) ?_
  rw [show XF b ps = hdN ++ b ++ pmd ps ps.length ++ tlN from rfl]
  exact ⟨_, rfl, yt⟩
theorem zeo (ba : LN) (la : Bool) (vpa v0a v1a vta : Value) (tva : List Value) (pa q0a q1a : List Int) (ta : List (List Int)) (hbaz : By ba) (hva : Shows G 1 vta tva.length tva) (hLa : zF G (vpa :: v0a :: v1a :: tva) (pa :: q0a :: q1a :: ta)) (hza : ta.length ≤ 9223372036854775807 ∧ ∀ l ∈ pa :: q0a :: q1a :: ta, l.length ≤ 9223372036854775807) (hp9 : pa.length ≤ 9223372036854775807) (he : (wP ba pa).1 = 0) (hs : z9x ba ba la (decide (ba = nXF)) pa pa q0a (ci (wq ba pa 0)) q1a (ci (wq ba pa 1)) ta ((wt ba pa).map ci) = true) : Fp G 49 #[.agg (Ya ba la vpa v0a v1a vta)] (.tuple #[sv (XF ba pa), ii 0]) := by
 obtain ⟨ha0, ha1, ha2, ha3, ha4⟩ := ze1 hLa
 obtain ⟨hw0, hw4, hw1⟩ := YY he
 have hpc := z2b (show z10 ((YQ ba).length - 2) pa = 0 by rw [← z1J hw0]; exact he)
 obtain ⟨_, hpb5, _⟩ := z4T hw0
 have hs2 := (znK ba pa la (decide (ba = nXF)) q0a (ci (wq ba pa 0)) q1a (ci (wq ba pa 1)) ta ((wt ba pa).map ci)).trans hs
 refine Qf2 Tryz.func49 ?_
 refine (g4)<|(Qh 0) fun r1=>?_
 refine y8 (v := sv []) rfl rfl ?_
 refine (g3)<|Qs<|QR ⟨[], 4, [], none, none⟩<|(Qf 0)<|(QV 0 0)<|(Qf 2)<|(QV 2 0) ?_
 refine yf [(0, _)] (by repeat (first | exact zq | exact zj _ | apply zg rfl)) ⟨rfl, trivial⟩ rfl rfl rfl (Un 47) zo (WA ba vpa pa hbaz ha0 hp9 he) (vZ ba (decide (ba = nXF)) pa (wq ba pa 0) (wq ba pa 1) (wt ba pa)) rfl rfl fun v1_1 nw1_1 hD1_1 => ?_
 simp only [zA]
 obtain ⟨_, rfl, vp1, hp1, va1, vb1, vt1, tv1, rfl, ha1', hb1, ht1, hn1, hl1⟩ := hD1_1
 refine (ge)<|(QH 1) fun r2=>?_
 refine z7 (i := 1) (Uz 29) rfl rfl (z3 _ _) (Zw (z5 hp1) (z5 ha1') (z5 hb1) (z5 ht1)) rfl z8 (.inl rfl) ?_
 refine (gx)<|(QN) ?_
 refine (Ab (decide_eq_false (by decide)))<|(gp)<|Qs<|(gf)<|(QD 1) ?_
 refine zD rfl rfl (Un 78) (zh zo (zR (by repeat (first | exact zq | exact zj _ | apply zg rfl)) rfl)) (zdS (G := G ++ ([] ++ nw1_1)) ba la vpa v0a v1a vta tva pa q0a q1a ta hbaz (hva.mono (fun x hx => List.mem_append_left _ hx)) (yR hLa (fun x hx => List.mem_append_left _ hx)) ba (decide (ba = nXF)) vp1 va1 vb1 vt1 tv1 pa (ci (wq ba pa 0)) (ci (wq ba pa 1)) ((wt ba pa).map ci) hbaz (by rw [hn1]; exact ht1.mono (fun x hx => List.mem_append_right _ (List.mem_append_right _ hx))) (zl2 (hp1.mono (fun x hx => List.mem_append_right _ (List.mem_append_right _ hx))) (ha1'.mono (fun x hx => List.mem_append_right _ (List.mem_append_right _ hx))) (hb1.mono (fun x hx => List.mem_append_right _ (List.mem_append_right _ hx))) (yR hl1 (fun x hx => List.mem_append_right _ (List.mem_append_right _ hx)))) hza) rfl rfl ?_
 refine (Ab hs2)<|(Q0)<|(gp)<|(g4)<|(Qf 0)<|(QV 0 1)<|(Qf 2)<|(QV 2 1) ?_
 refine zD rfl rfl (Un 79) (zR (by repeat (first | exact zq | exact zj _ | apply zg rfl)) rfl) (zat (G := nw1_1) ba vp1 pa hbaz (by omega) hp1 (by omega) (fun i hi => by have := hpc.2 i hi; omega)) rfl rfl ?_
 refine (gr) ?_
 exact ⟨_, _, rfl, yt, yt⟩
end Go.Proofs.YtacflmjoigffpaaGreatDoor
