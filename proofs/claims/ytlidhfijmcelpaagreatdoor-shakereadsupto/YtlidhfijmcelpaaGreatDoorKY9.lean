import Derived.Test.YtlidhfijmcelpaaGreatDoorKY8
set_option maxHeartbeats 8000000
set_option maxRecDepth 30000
attribute [local simp] Go.Proofs.YtlidhfijmcelpaaGreatDoor.By Go.Proofs.YtlidhfijmcelpaaGreatDoor.L8
namespace Go.Proofs.YtlidhfijmcelpaaGreatDoor
open Go Go.RowKit
variable {G : Mem}
theorem z07 (r p a h : NN) (n : Int) (ha0 : a 0 < 18446744073709551616) (ha1 : a 1 < 18446744073709551616) (hr0 : r 0 < 18446744073709551616) (hr1 : r 1 < 18446744073709551616) : Fp G 227 #[PV r p a h n] (ii (if (yE r a n && okh n h 16) = true then 0 else 9)) := by
 refine Qf1 Tryz.func227 ?_
 refine (g4)<|(Qh 0) fun r1=>(j9) ?_
 refine wo (Ub 30 rfl) (Uu 30 rfl) z5u rfl ?_
 refine (QH 1) fun r2=>(ja)<|(gr)<|(Qsa 0 32)<|(Qf 0)<|(Qj 0)<|(QI 0 0 0) ?_
 refine (Ca (xO (r 0) 8 hr0 (by decide)))<|(Qf 0)<|(Qj 1)<|(QI 0 1 0) ?_
 refine (Ca (xO (r 1) 8 hr1 (by decide))) ?_
 refine yn rfl rfl rfl (by simp [zL]) ?_
 refine (Av (sv (lw r))) ?_
 refine YD (i := 1) (Uu 22) (Uz 5) rfl rfl (ziC r) rfl (by omega) rfl ?_
 refine Qn<|Qs ?_
 rcases zgJ r a n with hk0 | ⟨hk0, hk1⟩ | ⟨hk0, hk1, hk2⟩ | ⟨hk0, hk1, hk2, hk3⟩ | ⟨hk0, hk1, hk2, hk3, hk4⟩ | ⟨hk0, hk1, hk2, hk3, hk4⟩
 ·skip
  refine (Qg)<|(Qd 1) ?_
  refine (Aa (YW r)) ?_
  refine (Ca (vH (kq r) (z0e r)))<|(QJ 0)<|(j8) ?_
  refine Y8 (Uu 244) (Uu 31) (Uz 31) vU rfl rfl rfl ?_
  refine (Ab hk0)<|(Qm)<|(gx)<|(QF)<|(Qm)<|(gx)<|(QF)<|(j6)<|(QF)<|(j6)<|(gg)<|(QF) ?_
  refine (Ab (show false = yE r a n from z00 (.inl (hk0))))<|(g3)<|(gs)<|(Qf 7)<|(Qv 3 0)<|(Qm)<|Qn<|Qb ?_
  refine Qz (fun kk E m => ∃ (i : Nat), kk = 16 - i ∧ E = [(1, ptr r1), (2, ii 0), (4, .bool (yE r a n && okh n h i)), (52, .agg (arr .u8 16 h)), (53, ii i)] ∧ m = [(0, some ⟨r1, cells 24 [pI .u64 2 r, pI .u64 2 p, pI .u64 3 a, pI .u8 16 h, pV (.int .i64 n)], 247⟩), (1, some ⟨r2, arr .u8 32 (fun j => if 0 ≤ j ∧ j < 0 + min (lw r).length 32 then (lw r).getD (j - 0) 0 else 0), 30⟩)] ∧ (i ≤ 16)) ⟨0, rfl, rfl, rfl, by omega⟩ ⟨rfl, rfl, by rw [show okh n h 0 = true from rfl, Bool.and_true]; rfl, rfl, rfl, trivial⟩ ⟨rfl, rfl, trivial⟩ ?_
  rintro kk E m ⟨i, rfl, rfl, rfl, hf0_0⟩
  refine (gq) ?_
  refine (Qcd) (fun hc0=>?_) fun hc0=>?_
  ·refine Qk<|Qs<|Qb<|Qs<|Qp<|(Qm)<|(QX)<|(Qa)<|(Qa)<|Qn ?_
   rcases YI (yE r a n) n h i with hok | ⟨hok, hlt⟩ | ⟨hok, hlt⟩
   ·skip
    refine (j0) ?_
    refine (Ab hok)<|(j6)<|(Qo)<|(Qw)<|(Qw)<|(Qo)<|(QF) ?_
    refine (Ab (z2d hok))<|(jb) ?_
    refine Qzr ⟨i + 1, rfl, rfl, rfl, by omega⟩ ⟨rfl, rfl, rfl, rfl, rfl, trivial⟩ ⟨rfl, rfl, trivial⟩ ?_
    omega
   ·skip
    refine (j0) ?_
    refine (Ab hok)<|(gm)<|(jh)<|(Qy)<|(Ql) ?_
    refine z6 (congrArg Value.bool (decide_eq_true hlt)) ?_
    refine (Qy)<|(Qm)<|(g5)<|(Qy)<|(QT)<|(QT) ?_
    refine (Ab (z2N hok hlt))<|(jb) ?_
    refine Qzr ⟨i + 1, rfl, rfl, rfl, by omega⟩ ⟨rfl, rfl, rfl, rfl, rfl, trivial⟩ ⟨rfl, rfl, trivial⟩ ?_
    omega
   ·skip
    refine (j0) ?_
    refine (Ab hok)<|(gm)<|(jh)<|(Qy)<|(Ql) ?_
    refine z6 (congrArg Value.bool (decide_eq_false hlt)) ?_
    refine (Qy)<|(gm)<|(Qc)<|(Qy)<|(QF)<|(QT) ?_
    refine (Ab (z1S hok hlt))<|(jb) ?_
    refine Qzr ⟨i + 1, rfl, rfl, rfl, by omega⟩ ⟨rfl, rfl, rfl, rfl, rfl, trivial⟩ ⟨rfl, rfl, trivial⟩ ?_
    omega
  ·have hi16 : i = 16 := by omega
   subst hi16
   refine Qe<|(ge)<|(Q0)<|Qn ?_
   refine zh rfl ?_ ?_
   ·intro hc1
    have hfin : ¬ (yE r a n && okh n h 16) = true := fun hx => by rw [hx] at hc1; exact absurd hc1 (by decide)
    refine (j4) ?_
    first | rw [if_pos hfin] | rw [if_neg hfin]
    exact ⟨_, rfl, yt⟩
   ·intro hc1
    have hfin : (yE r a n && okh n h 16) = true := by simpa using hc1
    refine Qk<|(j4) ?_
    first | rw [if_pos hfin] | rw [if_neg hfin]
    exact ⟨_, rfl, yt⟩
 ·skip
  refine (Qg)<|(Qd 1) ?_
  refine (Aa (YW r)) ?_
  refine (Ca (vH (kq r) (z0e r)))<|(QJ 0)<|(j8) ?_
  refine Y8 (Uu 244) (Uu 31) (Uz 31) vU rfl rfl rfl ?_
  refine (Ab hk0)<|(g7)<|(jh)<|(Qy)<|(QE) ?_
  refine z6 (congrArg Value.bool (decide_eq_false hk1)) ?_
  refine (QT)<|(Qm)<|(gx)<|(QF)<|(j6)<|(QF)<|(j6)<|(gg)<|(QF) ?_
  refine (Ab (show false = yE r a n from z00 (.inr (.inl (decide_eq_false hk1)))))<|(g3)<|(gs)<|(Qf 7)<|(Qv 3 0)<|(Qm)<|Qn<|Qb ?_
  refine Qz (fun kk E m => ∃ (i : Nat), kk = 16 - i ∧ E = [(1, ptr r1), (2, ii 0), (4, .bool (yE r a n && okh n h i)), (52, .agg (arr .u8 16 h)), (53, ii i)] ∧ m = [(0, some ⟨r1, cells 24 [pI .u64 2 r, pI .u64 2 p, pI .u64 3 a, pI .u8 16 h, pV (.int .i64 n)], 247⟩), (1, some ⟨r2, arr .u8 32 (fun j => if 0 ≤ j ∧ j < 0 + min (lw r).length 32 then (lw r).getD (j - 0) 0 else 0), 30⟩)] ∧ (i ≤ 16)) ⟨0, rfl, rfl, rfl, by omega⟩ ⟨rfl, rfl, by rw [show okh n h 0 = true from rfl, Bool.and_true]; rfl, rfl, rfl, trivial⟩ ⟨rfl, rfl, trivial⟩ ?_
  rintro kk E m ⟨i, rfl, rfl, rfl, hf0_0⟩
  refine (gq) ?_
  refine (Qcd) (fun hc0=>?_) fun hc0=>?_
  ·refine Qk<|Qs<|Qb<|Qs<|Qp<|(Qm)<|(QX)<|(Qa)<|(Qa)<|Qn ?_
   rcases YI (yE r a n) n h i with hok | ⟨hok, hlt⟩ | ⟨hok, hlt⟩
   ·skip
    refine (j0) ?_
    refine (Ab hok)<|(j6)<|(Qo)<|(Qw)<|(Qw)<|(Qo)<|(QF) ?_
    refine (Ab (z2d hok))<|(jb) ?_
    refine Qzr ⟨i + 1, rfl, rfl, rfl, by omega⟩ ⟨rfl, rfl, rfl, rfl, rfl, trivial⟩ ⟨rfl, rfl, trivial⟩ ?_
    omega
   ·skip
    refine (j0) ?_
    refine (Ab hok)<|(gm)<|(jh)<|(Qy)<|(Ql) ?_
    refine z6 (congrArg Value.bool (decide_eq_true hlt)) ?_
    refine (Qy)<|(Qm)<|(g5)<|(Qy)<|(QT)<|(QT) ?_
    refine (Ab (z2N hok hlt))<|(jb) ?_
    refine Qzr ⟨i + 1, rfl, rfl, rfl, by omega⟩ ⟨rfl, rfl, rfl, rfl, rfl, trivial⟩ ⟨rfl, rfl, trivial⟩ ?_
    omega
   ·skip
    refine (j0) ?_
    refine (Ab hok)<|(gm)<|(jh)<|(Qy)<|(Ql) ?_
    refine z6 (congrArg Value.bool (decide_eq_false hlt)) ?_
    refine (Qy)<|(gm)<|(Qc)<|(Qy)<|(QF)<|(QT) ?_
    refine (Ab (z1S hok hlt))<|(jb) ?_
    refine Qzr ⟨i + 1, rfl, rfl, rfl, by omega⟩ ⟨rfl, rfl, rfl, rfl, rfl, trivial⟩ ⟨rfl, rfl, trivial⟩ ?_
    omega
  ·have hi16 : i = 16 := by omega
   subst hi16
   refine Qe<|(ge)<|(Q0)<|Qn ?_
   refine zh rfl ?_ ?_
   ·intro hc1
    have hfin : ¬ (yE r a n && okh n h 16) = true := fun hx => by rw [hx] at hc1; exact absurd hc1 (by decide)
    refine (j4) ?_
    first | rw [if_pos hfin] | rw [if_neg hfin]
    exact ⟨_, rfl, yt⟩
   ·intro hc1
    have hfin : (yE r a n && okh n h 16) = true := by simpa using hc1
    refine Qk<|(j4) ?_
    first | rw [if_pos hfin] | rw [if_neg hfin]
    exact ⟨_, rfl, yt⟩
 ·skip
  refine (Qg)<|(Qd 1) ?_
  refine (Aa (YW r)) ?_
  refine (Ca (vH (kq r) (z0e r)))<|(QJ 0)<|(j8) ?_
  refine Y8 (Uu 244) (Uu 31) (Uz 31) vU rfl rfl rfl ?_
  refine (Ab hk0)<|(g7)<|(jh)<|(Qy)<|(QE) ?_
  refine z6 (congrArg Value.bool (decide_eq_true hk1)) ?_
  refine (QT)<|(g7)<|(jh)<|(Qy)<|(Ql) ?_
  refine z6 (congrArg Value.bool (decide_eq_false hk2)) ?_
  refine (QT)<|(j6)<|(QF)<|(j6)<|(gg)<|(QF) ?_
  refine (Ab (show false = yE r a n from z00 (.inr (.inr (.inl (decide_eq_false hk2))))))<|(g3)<|(gs)<|(Qf 7)<|(Qv 3 0)<|(Qm)<|Qn<|Qb ?_
  refine Qz (fun kk E m => ∃ (i : Nat), kk = 16 - i ∧ E = [(1, ptr r1), (2, ii 0), (4, .bool (yE r a n && okh n h i)), (52, .agg (arr .u8 16 h)), (53, ii i)] ∧ m = [(0, some ⟨r1, cells 24 [pI .u64 2 r, pI .u64 2 p, pI .u64 3 a, pI .u8 16 h, pV (.int .i64 n)], 247⟩), (1, some ⟨r2, arr .u8 32 (fun j => if 0 ≤ j ∧ j < 0 + min (lw r).length 32 then (lw r).getD (j - 0) 0 else 0), 30⟩)] ∧ (i ≤ 16)) ⟨0, rfl, rfl, rfl, by omega⟩ ⟨rfl, rfl, by rw [show okh n h 0 = true from rfl, Bool.and_true]; rfl, rfl, rfl, trivial⟩ ⟨rfl, rfl, trivial⟩ ?_
  rintro kk E m ⟨i, rfl, rfl, rfl, hf0_0⟩
  refine (gq) ?_
  refine (Qcd) (fun hc0=>?_) fun hc0=>?_
  ·refine Qk<|Qs<|Qb<|Qs<|Qp<|(Qm)<|(QX)<|(Qa)<|(Qa)<|Qn ?_
   rcases YI (yE r a n) n h i with hok | ⟨hok, hlt⟩ | ⟨hok, hlt⟩
   ·skip
    refine (j0) ?_
    refine (Ab hok)<|(j6)<|(Qo)<|(Qw)<|(Qw)<|(Qo)<|(QF) ?_
    refine (Ab (z2d hok))<|(jb) ?_
    refine Qzr ⟨i + 1, rfl, rfl, rfl, by omega⟩ ⟨rfl, rfl, rfl, rfl, rfl, trivial⟩ ⟨rfl, rfl, trivial⟩ ?_
    omega
   ·skip
    refine (j0) ?_
    refine (Ab hok)<|(gm)<|(jh)<|(Qy)<|(Ql) ?_
    refine z6 (congrArg Value.bool (decide_eq_true hlt)) ?_
    refine (Qy)<|(Qm)<|(g5)<|(Qy)<|(QT)<|(QT) ?_
    refine (Ab (z2N hok hlt))<|(jb) ?_
    refine Qzr ⟨i + 1, rfl, rfl, rfl, by omega⟩ ⟨rfl, rfl, rfl, rfl, rfl, trivial⟩ ⟨rfl, rfl, trivial⟩ ?_
    omega
   ·skip
    refine (j0) ?_
    refine (Ab hok)<|(gm)<|(jh)<|(Qy)<|(Ql) ?_
    refine z6 (congrArg Value.bool (decide_eq_false hlt)) ?_
    refine (Qy)<|(gm)<|(Qc)<|(Qy)<|(QF)<|(QT) ?_
    refine (Ab (z1S hok hlt))<|(jb) ?_
    refine Qzr ⟨i + 1, rfl, rfl, rfl, by omega⟩ ⟨rfl, rfl, rfl, rfl, rfl, trivial⟩ ⟨rfl, rfl, trivial⟩ ?_
    omega
  ·have hi16 : i = 16 := by omega
   subst hi16
   refine Qe<|(ge)<|(Q0)<|Qn ?_
   refine zh rfl ?_ ?_
   ·intro hc1
    have hfin : ¬ (yE r a n && okh n h 16) = true := fun hx => by rw [hx] at hc1; exact absurd hc1 (by decide)
    refine (j4) ?_
    first | rw [if_pos hfin] | rw [if_neg hfin]
    exact ⟨_, rfl, yt⟩
   ·intro hc1
    have hfin : (yE r a n && okh n h 16) = true := by simpa using hc1
    refine Qk<|(j4) ?_
    first | rw [if_pos hfin] | rw [if_neg hfin]
    exact ⟨_, rfl, yt⟩
 ·skip
  refine (Qg)<|(Qd 1) ?_
  refine (Aa (YW r)) ?_
  refine (Ca (vH (kq r) (z0e r)))<|(QJ 0)<|(j8) ?_
  refine Y8 (Uu 244) (Uu 31) (Uz 31) vU rfl rfl rfl ?_
  refine (Ab hk0)<|(g7)<|(jh)<|(Qy)<|(QE) ?_
  refine z6 (congrArg Value.bool (decide_eq_true hk1)) ?_
  refine (QT)<|(g7)<|(jh)<|(Qy)<|(Ql) ?_
  refine z6 (congrArg Value.bool (decide_eq_true hk2)) ?_
  refine (QT)<|(g7)<|(Qf 4)<|(Qy)<|(QA 6 2)<|(Qy)<|(QI 2 2 0)<|(Qy)<|(Ql)<|(Qaf)<|(QT)<|(j6)<|(gg)<|(QF) ?_
  refine (Ab (show false = yE r a n from z00 (.inr (.inr (.inr (.inl (decide_eq_false hk3)))))))<|(g3)<|(gs)<|(Qf 7)<|(Qv 3 0)<|(Qm)<|Qn<|Qb ?_
  refine Qz (fun kk E m => ∃ (i : Nat), kk = 16 - i ∧ E = [(1, ptr r1), (2, ii 0), (4, .bool (yE r a n && okh n h i)), (52, .agg (arr .u8 16 h)), (53, ii i)] ∧ m = [(0, some ⟨r1, cells 24 [pI .u64 2 r, pI .u64 2 p, pI .u64 3 a, pI .u8 16 h, pV (.int .i64 n)], 247⟩), (1, some ⟨r2, arr .u8 32 (fun j => if 0 ≤ j ∧ j < 0 + min (lw r).length 32 then (lw r).getD (j - 0) 0 else 0), 30⟩)] ∧ (i ≤ 16)) ⟨0, rfl, rfl, rfl, by omega⟩ ⟨rfl, rfl, by rw [show okh n h 0 = true from rfl, Bool.and_true]; rfl, rfl, rfl, trivial⟩ ⟨rfl, rfl, trivial⟩ ?_
  rintro kk E m ⟨i, rfl, rfl, rfl, hf0_0⟩
  refine (gq) ?_
  refine (Qcd) (fun hc0=>?_) fun hc0=>?_
  ·refine Qk<|Qs<|Qb<|Qs<|Qp<|(Qm)<|(QX)<|(Qa)<|(Qa)<|Qn ?_
   rcases YI (yE r a n) n h i with hok | ⟨hok, hlt⟩ | ⟨hok, hlt⟩
   ·skip
    refine (j0) ?_
    refine (Ab hok)<|(j6)<|(Qo)<|(Qw)<|(Qw)<|(Qo)<|(QF) ?_
    refine (Ab (z2d hok))<|(jb) ?_
    refine Qzr ⟨i + 1, rfl, rfl, rfl, by omega⟩ ⟨rfl, rfl, rfl, rfl, rfl, trivial⟩ ⟨rfl, rfl, trivial⟩ ?_
    omega
   ·skip
    refine (j0) ?_
    refine (Ab hok)<|(gm)<|(jh)<|(Qy)<|(Ql) ?_
    refine z6 (congrArg Value.bool (decide_eq_true hlt)) ?_
    refine (Qy)<|(Qm)<|(g5)<|(Qy)<|(QT)<|(QT) ?_
    refine (Ab (z2N hok hlt))<|(jb) ?_
    refine Qzr ⟨i + 1, rfl, rfl, rfl, by omega⟩ ⟨rfl, rfl, rfl, rfl, rfl, trivial⟩ ⟨rfl, rfl, trivial⟩ ?_
    omega
   ·skip
    refine (j0) ?_
    refine (Ab hok)<|(gm)<|(jh)<|(Qy)<|(Ql) ?_
    refine z6 (congrArg Value.bool (decide_eq_false hlt)) ?_
    refine (Qy)<|(gm)<|(Qc)<|(Qy)<|(QF)<|(QT) ?_
    refine (Ab (z1S hok hlt))<|(jb) ?_
    refine Qzr ⟨i + 1, rfl, rfl, rfl, by omega⟩ ⟨rfl, rfl, rfl, rfl, rfl, trivial⟩ ⟨rfl, rfl, trivial⟩ ?_
    omega
  ·have hi16 : i = 16 := by omega
   subst hi16
   refine Qe<|(ge)<|(Q0)<|Qn ?_
   refine zh rfl ?_ ?_
   ·intro hc1
    have hfin : ¬ (yE r a n && okh n h 16) = true := fun hx => by rw [hx] at hc1; exact absurd hc1 (by decide)
    refine (j4) ?_
    first | rw [if_pos hfin] | rw [if_neg hfin]
    exact ⟨_, rfl, yt⟩
   ·intro hc1
    have hfin : (yE r a n && okh n h 16) = true := by simpa using hc1
    refine Qk<|(j4) ?_
    first | rw [if_pos hfin] | rw [if_neg hfin]
    exact ⟨_, rfl, yt⟩
 ·skip
  refine (Qg)<|(Qd 1) ?_
  refine (Aa (YW r)) ?_
  refine (Ca (vH (kq r) (z0e r)))<|(QJ 0)<|(j8) ?_
  refine Y8 (Uu 244) (Uu 31) (Uz 31) vU rfl rfl rfl ?_
  refine (Ab hk0)<|(g7)<|(jh)<|(Qy)<|(QE) ?_
  refine z6 (congrArg Value.bool (decide_eq_true hk1)) ?_
  refine (QT)<|(g7)<|(jh)<|(Qy)<|(Ql) ?_
  refine z6 (congrArg Value.bool (decide_eq_true hk2)) ?_
  refine (QT)<|(g7)<|(Qf 4)<|(Qy)<|(QA 6 2)<|(Qy)<|(QI 2 2 0)<|(Qy)<|(Ql)<|(Qat)<|(QT)<|(g7)<|(Qf 4)<|(Qy)<|(Qv 2 0)<|(Qy) ?_
  refine (Ca (vO a ha0 ha1 hk3))<|(Qy) ?_
  refine z9 rfl (Un 245) (ZQ _ (fun j _ => Nat.lt_trans (yU _ j) (by decide))) rfl rfl ?_
  refine z6 (congrArg (fun z => p5 (z % QQ)) (zfV (ze5 ha0 ha1 hk3))) ?_
  refine (Qy) ?_
  refine (Ca (z1p _ (Yd _)))<|(Qy)<|(Qf 4)<|(Qy)<|(Qv 2 0)<|(Qy) ?_
  refine Y8 (Uu 245) (Uu 31) (Uz 31) zfp rfl rfl rfl ?_
  refine (Ab hk4)<|(QT) ?_
  refine (Ab (show false = yE r a n from z00 (.inr (.inr (.inr (.inr (hk4)))))))<|(g3)<|(gs)<|(Qf 7)<|(Qv 3 0)<|(Qm)<|Qn<|Qb ?_
  refine Qz (fun kk E m => ∃ (i : Nat), kk = 16 - i ∧ E = [(1, ptr r1), (2, ii 0), (4, .bool (yE r a n && okh n h i)), (52, .agg (arr .u8 16 h)), (53, ii i)] ∧ m = [(0, some ⟨r1, cells 24 [pI .u64 2 r, pI .u64 2 p, pI .u64 3 a, pI .u8 16 h, pV (.int .i64 n)], 247⟩), (1, some ⟨r2, arr .u8 32 (fun j => if 0 ≤ j ∧ j < 0 + min (lw r).length 32 then (lw r).getD (j - 0) 0 else 0), 30⟩)] ∧ (i ≤ 16)) ⟨0, rfl, rfl, rfl, by omega⟩ ⟨rfl, rfl, by rw [show okh n h 0 = true from rfl, Bool.and_true]; rfl, rfl, rfl, trivial⟩ ⟨rfl, rfl, trivial⟩ ?_
  rintro kk E m ⟨i, rfl, rfl, rfl, hf0_0⟩
  refine (gq) ?_
  refine (Qcd) (fun hc0=>?_) fun hc0=>?_
  ·refine Qk<|Qs<|Qb<|Qs<|Qp<|(Qm)<|(QX)<|(Qa)<|(Qa)<|Qn ?_
   rcases YI (yE r a n) n h i with hok | ⟨hok, hlt⟩ | ⟨hok, hlt⟩
   ·skip
    refine (j0) ?_
    refine (Ab hok)<|(j6)<|(Qo)<|(Qw)<|(Qw)<|(Qo)<|(QF) ?_
    refine (Ab (z2d hok))<|(jb) ?_
    refine Qzr ⟨i + 1, rfl, rfl, rfl, by omega⟩ ⟨rfl, rfl, rfl, rfl, rfl, trivial⟩ ⟨rfl, rfl, trivial⟩ ?_
    omega
   ·skip
    refine (j0) ?_
    refine (Ab hok)<|(gm)<|(jh)<|(Qy)<|(Ql) ?_
    refine z6 (congrArg Value.bool (decide_eq_true hlt)) ?_
    refine (Qy)<|(Qm)<|(g5)<|(Qy)<|(QT)<|(QT) ?_
    refine (Ab (z2N hok hlt))<|(jb) ?_
    refine Qzr ⟨i + 1, rfl, rfl, rfl, by omega⟩ ⟨rfl, rfl, rfl, rfl, rfl, trivial⟩ ⟨rfl, rfl, trivial⟩ ?_
    omega
   ·skip
    refine (j0) ?_
    refine (Ab hok)<|(gm)<|(jh)<|(Qy)<|(Ql) ?_
    refine z6 (congrArg Value.bool (decide_eq_false hlt)) ?_
    refine (Qy)<|(gm)<|(Qc)<|(Qy)<|(QF)<|(QT) ?_
    refine (Ab (z1S hok hlt))<|(jb) ?_
    refine Qzr ⟨i + 1, rfl, rfl, rfl, by omega⟩ ⟨rfl, rfl, rfl, rfl, rfl, trivial⟩ ⟨rfl, rfl, trivial⟩ ?_
    omega
  ·have hi16 : i = 16 := by omega
   subst hi16
   refine Qe<|(ge)<|(Q0)<|Qn ?_
   refine zh rfl ?_ ?_
   ·intro hc1
    have hfin : ¬ (yE r a n && okh n h 16) = true := fun hx => by rw [hx] at hc1; exact absurd hc1 (by decide)
    refine (j4) ?_
    first | rw [if_pos hfin] | rw [if_neg hfin]
    exact ⟨_, rfl, yt⟩
   ·intro hc1
    have hfin : (yE r a n && okh n h 16) = true := by simpa using hc1
    refine Qk<|(j4) ?_
    first | rw [if_pos hfin] | rw [if_neg hfin]
    exact ⟨_, rfl, yt⟩
 ·skip
  refine (Qg)<|(Qd 1) ?_
  refine (Aa (YW r)) ?_
  refine (Ca (vH (kq r) (z0e r)))<|(QJ 0)<|(j8) ?_
  refine Y8 (Uu 244) (Uu 31) (Uz 31) vU rfl rfl rfl ?_
  refine (Ab hk0)<|(g7)<|(jh)<|(Qy)<|(QE) ?_
  refine z6 (congrArg Value.bool (decide_eq_true hk1)) ?_
  refine (QT)<|(g7)<|(jh)<|(Qy)<|(Ql) ?_
  refine z6 (congrArg Value.bool (decide_eq_true hk2)) ?_
  refine (QT)<|(g7)<|(Qf 4)<|(Qy)<|(QA 6 2)<|(Qy)<|(QI 2 2 0)<|(Qy)<|(Ql)<|(Qat)<|(QT)<|(g7)<|(Qf 4)<|(Qy)<|(Qv 2 0)<|(Qy) ?_
  refine (Ca (vO a ha0 ha1 hk3))<|(Qy) ?_
  refine z9 rfl (Un 245) (ZQ _ (fun j _ => Nat.lt_trans (yU _ j) (by decide))) rfl rfl ?_
  refine z6 (congrArg (fun z => p5 (z % QQ)) (zfV (ze5 ha0 ha1 hk3))) ?_
  refine (Qy) ?_
  refine (Ca (z1p _ (Yd _)))<|(Qy)<|(Qf 4)<|(Qy)<|(Qv 2 0)<|(Qy) ?_
  refine Y8 (Uu 245) (Uu 31) (Uz 31) zfp rfl rfl rfl ?_
  refine (Ab hk4)<|(QT) ?_
  refine (Ab (ze1 hk0 hk1 hk2 hk3 hk4))<|(g3)<|(gs)<|(Qf 7)<|(Qv 3 0)<|(Qm)<|Qn<|Qb ?_
  refine Qz (fun kk E m => ∃ (i : Nat), kk = 16 - i ∧ E = [(1, ptr r1), (2, ii 0), (4, .bool (yE r a n && okh n h i)), (52, .agg (arr .u8 16 h)), (53, ii i)] ∧ m = [(0, some ⟨r1, cells 24 [pI .u64 2 r, pI .u64 2 p, pI .u64 3 a, pI .u8 16 h, pV (.int .i64 n)], 247⟩), (1, some ⟨r2, arr .u8 32 (fun j => if 0 ≤ j ∧ j < 0 + min (lw r).length 32 then (lw r).getD (j - 0) 0 else 0), 30⟩)] ∧ (i ≤ 16)) ⟨0, rfl, rfl, rfl, by omega⟩ ⟨rfl, rfl, by rw [show okh n h 0 = true from rfl, Bool.and_true]; rfl, rfl, rfl, trivial⟩ ⟨rfl, rfl, trivial⟩ ?_
  rintro kk E m ⟨i, rfl, rfl, rfl, hf0_0⟩
  refine (gq) ?_
  refine (Qcd) (fun hc0=>?_) fun hc0=>?_
  ·refine Qk<|Qs<|Qb<|Qs<|Qp<|(Qm)<|(QX)<|(Qa)<|(Qa)<|Qn ?_
   rcases YI (yE r a n) n h i with hok | ⟨hok, hlt⟩ | ⟨hok, hlt⟩
   ·skip
    refine (j0) ?_
    refine (Ab hok)<|(j6)<|(Qo)<|(Qw)<|(Qw)<|(Qo)<|(QF) ?_
    refine (Ab (z2d hok))<|(jb) ?_
    refine Qzr ⟨i + 1, rfl, rfl, rfl, by omega⟩ ⟨rfl, rfl, rfl, rfl, rfl, trivial⟩ ⟨rfl, rfl, trivial⟩ ?_
    omega
   ·skip
    refine (j0) ?_
    refine (Ab hok)<|(gm)<|(jh)<|(Qy)<|(Ql) ?_
    refine z6 (congrArg Value.bool (decide_eq_true hlt)) ?_
    refine (Qy)<|(Qm)<|(g5)<|(Qy)<|(QT)<|(QT) ?_
    refine (Ab (z2N hok hlt))<|(jb) ?_
    refine Qzr ⟨i + 1, rfl, rfl, rfl, by omega⟩ ⟨rfl, rfl, rfl, rfl, rfl, trivial⟩ ⟨rfl, rfl, trivial⟩ ?_
    omega
   ·skip
    refine (j0) ?_
    refine (Ab hok)<|(gm)<|(jh)<|(Qy)<|(Ql) ?_
    refine z6 (congrArg Value.bool (decide_eq_false hlt)) ?_
    refine (Qy)<|(gm)<|(Qc)<|(Qy)<|(QF)<|(QT) ?_
    refine (Ab (z1S hok hlt))<|(jb) ?_
    refine Qzr ⟨i + 1, rfl, rfl, rfl, by omega⟩ ⟨rfl, rfl, rfl, rfl, rfl, trivial⟩ ⟨rfl, rfl, trivial⟩ ?_
    omega
  ·have hi16 : i = 16 := by omega
   subst hi16
   refine Qe<|(ge)<|(Q0)<|Qn ?_
   refine zh rfl ?_ ?_
   ·intro hc1
    have hfin : ¬ (yE r a n && okh n h 16) = true := fun hx => by rw [hx] at hc1; exact absurd hc1 (by decide)
    refine (j4) ?_
    first | rw [if_pos hfin] | rw [if_neg hfin]
    exact ⟨_, rfl, yt⟩
   ·intro hc1
    have hfin : (yE r a n && okh n h 16) = true := by simpa using hc1
    refine Qk<|(j4) ?_
    first | rw [if_pos hfin] | rw [if_neg hfin]
    exact ⟨_, rfl, yt⟩
theorem zcK (r p : NN) (A : Nat) (h : NN) (n : Nat) (v : Value) (l : LN) (hv : Sh G v l) (hlb : By l) (hA : A < 2 ^ 130) (hr0 : r 0 < 18446744073709551616) (hr1 : r 1 < 18446744073709551616) (hn : n < 16) (hh : L8 16 h) (hok : (yE r (wd A) n && okh n h 16) = true) (hlen : l.length + 16 ≤ 9223372036854775807) : Fp G 201 #[PV r p (wd A) h n, v] (.tuple #[PV r p (wd (wK (k3 r) A (sS h n l) ((sS h n l).length / 16))) (fun i => ((sS h n l).drop (16 * ((sS h n l).length / 16))).getD i 0) (((sS h n l).drop (16 * ((sS h n l).length / 16))).length : Int), ii 0]) := by
 have hSl := V3 h n l
 have hSb := z9i (n := n) (fun j hj => hh j (by omega)) hlb
 refine Qf2 Tryz.func201 ?_
 refine (g4)<|(Qh 0) fun r1=>(QH 1) fun r2=>(g3)<|Qs<|(gc) ?_
 refine (Ca (z07 r p (wd A) h n (y7 _ 0) (y7 _ 1) hr0 hr1)) ?_
 refine (Ai (if_pos hok))<|(jr)<|(gn)<|(g4)<|(Qf 7)<|(Qv 3 0)<|(QH 2) fun r3=>(Qt 2)<|(jf)<|(Qf 23)<|(QV 4 0) ?_
 refine xo 0 n (Uu 213) (Uz 5) rfl rfl rfl rfl ⟨_, rfl⟩ (by omega) (by omega) (by omega) rfl ?_
 refine (QcS 2) ?_
 refine z6 (wm h n) ?_
 refine (Qm) ?_
 refine zx hv za (Uu 22) (Uu 5) (Uu 9) rfl rfl rfl ?_
 refine yn rfl rfl rfl (by simp; omega) ?_
 refine (Av (sv (sS h n l)))<|(g3)<|Qs<|Qb ?_
 refine Qz (fun kk E m => ∃ (k : Nat) (ch : Nat → Nat) (cn : Int), kk = (sS h n l).length - 16 * k ∧ E = [(2, ptr r1), (4, ptr r2), (5, ii 0), (8, sv ((sS h n l).drop (16 * k)))] ∧ m = [(0, some ⟨r1, cells 24 [pI .u64 2 r, pI .u64 2 p, pI .u64 3 (wd (wK (k3 r) A (sS h n l) k)), pI .u8 16 ch, pV (.int .i64 cn)], 247⟩), (1, some ⟨r2, cells 24 [pI .u64 2 (fun _ => 0), pI .u64 2 (fun _ => 0), pI .u64 3 (fun _ => 0), pI .u8 16 (fun _ => 0), pV (.int .i64 0)], 247⟩), (2, some ⟨r3, arr .u8 16 h, 213⟩)] ∧ (16 * k ≤ (sS h n l).length)) ⟨0, h, (n : Int), rfl, rfl, rfl, by omega⟩ ⟨rfl, rfl, rfl, rfl, trivial⟩ ⟨rfl, rfl, rfl, trivial⟩ ?_
 rintro kk E m ⟨k, ch, cn, rfl, rfl, rfl, hf0_0⟩
 have hB := z98 (R := k3 r) (S := sS h n l) hA k
 have hdl : ((sS h n l).drop (16 * k)).length = (sS h n l).length - 16 * k := List.length_drop
 refine (ge)<|(QU)<|(QE)<|Qn ?_
 refine (Qcd) (fun hc1=>?_) fun hc1=>?_
 ·refine Qk<|Qb<|(Qg)<|(QD 0)<|(Qm) ?_
  refine zz 0 16 (Uu 9) rfl rfl rfl rfl ⟨_, rfl⟩ (by omega) (by omega) rfl ?_
  refine z9 rfl (Un 228) (z2c r p (wd (wK (k3 r) A (sS h n l) k)) ch cn (((sS h n l).drop (16 * k)).take 16) (by rw [List.length_take]; omega) (xW hSb _ _) (y7 _ 0) (y7 _ 1) (z3v hB) hr0 hr1) rfl rfl ?_
  refine z6 (congrArg (fun z => PV r p (wd (pst (k3 r) z (((sS h n l).drop (16 * k)).take 16))) (fun _ => 0) 0) (z8i hB)) ?_
  refine (Qm) ?_
  refine zz 16 ((sS h n l).drop (16 * k)).length (Uu 9) rfl rfl rfl ⟨_, rfl⟩ rfl (by omega) (by omega) rfl ?_
  refine z6 (congrArg sv (z9V _ k)) ?_
  refine (QW 0)<|(g3) ?_
  refine Qzr ⟨k + 1, fun _ => 0, 0, rfl, rfl, rfl, by omega⟩ ⟨rfl, rfl, rfl, rfl, trivial⟩ ⟨rfl, rfl, rfl, trivial⟩ ?_
  omega
 ·have hk : k = (sS h n l).length / 16 := by omega
  subst hk
  refine (jn) ?_
  refine wo (Ub 213 rfl) (Uu 213 rfl) z5u rfl ?_
  refine (Qm)<|(QU)<|(Qf 7)<|(QtC 0 3)<|(Qf 23)<|(QtV 0 4)<|(gl)<|(Qf 7)<|(Qsa 0 16)<|(Qm) ?_
  refine z8z (i := 0) 3 (Uu 22) (Uz 5) rfl rfl (fun b hb => hSb b (List.mem_of_mem_drop hb)) rfl rfl (Nat.le_of_ble_eq_true rfl) (by decide) rfl ?_
  refine Qn<|(gc) ?_
  refine z6 (Eq.trans (show _ = PV r p (wd (wK (k3 r) A (sS h n l) ((sS h n l).length / 16))) (fun i => if i < min ((sS h n l).drop (16 * ((sS h n l).length / 16))).length 16 then ((sS h n l).drop (16 * ((sS h n l).length / 16))).getD i 0 else 0) (((sS h n l).drop (16 * ((sS h n l).length / 16))).length : Int) from rfl) (congrArg (fun z => PV r p (wd (wK (k3 r) A (sS h n l) ((sS h n l).length / 16))) z (((sS h n l).drop (16 * ((sS h n l).length / 16))).length : Int)) (zdL _ (by omega)))) ?_
  refine (QW 1)<|(gt) ?_
  exact ⟨_, _, rfl, yb 1, yt⟩
theorem z7i (r p : NN) (A : Nat) (h : NN) (n : Nat) (hr0 : r 0 < 18446744073709551616) (hr1 : r 1 < 18446744073709551616) (hp0 : p 0 < 18446744073709551616) (hp1 : p 1 < 18446744073709551616) (hn : n = 0) (hok : (yE r (wd A) n && okh n h 16) = true) : Fp G 203 #[PV r p (wd A) h n] (.tuple #[.agg (arr .u8 16 (tgn (k3 (wd A)) (k3 p))), ii 0]) := by
 refine Qf2 Tryz.func203 ?_
 refine (g4)<|(Qh 0) fun r1=>(QH 1) fun r2=>(g3)<|Qs<|(gc) ?_
 refine (Ca (z07 r p (wd A) h n (y7 _ 0) (y7 _ 1) hr0 hr1)) ?_
 refine (Ai (if_pos hok))<|(jr)<|(gn)<|(gs)<|(Qf 7)<|(Qv 3 0)<|(QH 2) fun r3=>(Qt 2)<|(gl)<|(Qf 23)<|(QV 4 0)<|(QG)<|Qn ?_
 refine zh rfl ?_ ?_
 ·intro hc1
  exact absurd (of_decide_eq_true hc1) (by omega)
 ·intro hc1
  refine Qk<|(g4)<|(QH 3) fun r4=>(jf)<|(Qf 4)<|(QA 4 0)<|(QI 2 0 0) ?_
  refine z9 rfl (Un 121) (xO _ 8 (y7 _ 0) (by decide)) rfl rfl ?_
  refine (Qf 4)<|(QA 5 1)<|(QI 2 1 0) ?_
  refine z9 rfl (Un 121) (xO _ 8 (y7 _ 1) (by decide)) rfl rfl ?_
  refine yn rfl rfl rfl (by simp [zL]) ?_
  refine (Av (sv (lw (wd A))))<|(g3)<|(gr)<|(Qf 2)<|(QA 2 0)<|(QI 1 0 0) ?_
  refine z9 rfl (Un 121) (xO _ 8 hp0 (by decide)) rfl rfl ?_
  refine (Qf 2)<|(QA 3 1)<|(QI 1 1 0) ?_
  refine z9 rfl (Un 121) (xO _ 8 hp1 (by decide)) rfl rfl ?_
  refine yn rfl rfl rfl (by simp [zL]) ?_
  refine (Av (sv (lw p)))<|(g3)<|(gd)<|(jg) ?_
  refine Qz (fun kk E m => ∃ (i : Nat) (s : Nat → Nat), kk = 16 - i ∧ E = [(2, ptr r2), (3, ii 0), (6, ptr r4), (7, sv (lw (wd A))), (8, sv (lw p)), (9, ii (cr (k3 (wd A)) (k3 p) i)), (46, ii i)] ∧ m = [(0, some ⟨r1, cells 24 [pI .u64 2 r, pI .u64 2 p, pI .u64 3 (wd A), pI .u8 16 h, pV (.int .i64 n)], 247⟩), (1, some ⟨r2, arr .u8 16 (fun _ => 0), 213⟩), (2, some ⟨r3, arr .u8 16 h, 213⟩), (3, some ⟨r4, arr .u8 16 s, 213⟩)] ∧ (i ≤ 16) ∧ (∀ j, j < i → s j = tgn (k3 (wd A)) (k3 p) j)) ⟨0, fun _ => 0, rfl, rfl, rfl, by omega, fun j hj => absurd hj (Nat.not_lt_zero j)⟩ ⟨rfl, rfl, rfl, rfl, rfl, by rw [z9y]; rfl, rfl, trivial⟩ ⟨rfl, rfl, rfl, rfl, trivial⟩ ?_
  rintro kk E m ⟨i, s, rfl, rfl, rfl, hf0_0, hf0_1⟩
  have hci := ziu (k3 (wd A)) (k3 p) i
  have hx8 : (k3 (wd A)) / 256 ^ i % 256 < 256 := Nat.mod_lt _ (by decide)
  have hy8 : (k3 p) / 256 ^ i % 256 < 256 := Nat.mod_lt _ (by decide)
  refine (gq) ?_
  refine (Qcd) (fun hc2=>?_) fun hc2=>?_
  ·refine Qk<|Qs<|Qb<|Qs<|Qp<|(Qm)<|(Qa)<|Qn<|Qs<|(Qg)<|(Qm)<|(Qm)<|(Qm) ?_
   refine Zm (Uu 9) rfl rfl (z05 (y7 _ 0) (by omega)) (by omega) rfl ?_
   refine (Qci)<|(gb) ?_
   refine Zm (Uu 9) rfl rfl (z05 hp0 (by omega)) (by omega) rfl ?_
   refine (Qci)<|(Q3)<|(Q3)<|(go)<|(Qm) ?_
   refine x8 (Uu 3) (Uu 5) rfl rfl rfl ?_
   refine (Qi)<|(Qu 3)<|Qn<|(j0)<|(Q5 256)<|(jb) ?_
   refine Qzr ⟨i + 1, upd s i _, rfl, rfl, rfl, by omega, yM hf0_1 (zeF (k3 (wd A)) (k3 p) i)⟩ ⟨rfl, rfl, rfl, rfl, rfl, by rw [← z86]; rfl, rfl, trivial⟩ ⟨rfl, rfl, rfl, rfl, trivial⟩ ?_
   omega
  ·have hi16 : i = 16 := by omega
   subst hi16
   refine (jn)<|(Qd 3) ?_
   refine (Aa hf0_1)<|(Qt 1)<|(gt) ?_
   exact ⟨_, _, rfl, ya 1, yt⟩
theorem z6Y (r p : NN) (A : Nat) (h : NN) (n : Nat) (hr0 : r 0 < 18446744073709551616) (hr1 : r 1 < 18446744073709551616) (hp0 : p 0 < 18446744073709551616) (hp1 : p 1 < 18446744073709551616) (hA : A < 2 ^ 130) (hh : L8 16 h) (hn : 0 < n) (hn2 : n < 16) (hok : (yE r (wd A) n && okh n h 16) = true) : Fp G 203 #[PV r p (wd A) h n] (.tuple #[.agg (arr .u8 16 (tgn (k3 (wd (pst (k3 r) A ((List.range n).map h)))) (k3 p))), ii 0]) := by
 refine Qf2 Tryz.func203 ?_
 refine (g4)<|(Qh 0) fun r1=>(QH 1) fun r2=>(g3)<|Qs<|(gc) ?_
 refine (Ca (z07 r p (wd A) h n (y7 _ 0) (y7 _ 1) hr0 hr1)) ?_
 refine (Ai (if_pos hok))<|(jr)<|(gn)<|(gs)<|(Qf 7)<|(Qv 3 0)<|(QH 2) fun r3=>(Qt 2)<|(gl)<|(Qf 23)<|(QV 4 0)<|(QG)<|Qn ?_
 refine zh rfl ?_ ?_
 ·intro hc1
  refine (Qg)<|(QD 0)<|(Qf 23)<|(QV 4 0) ?_
  refine xo 0 n (Uu 213) (Uz 5) rfl rfl rfl rfl ⟨_, rfl⟩ (by omega) (by omega) (by omega) rfl ?_
  refine (QcS 2) ?_
  refine z6 (wm h n) ?_
  refine z9 rfl (Un 228) (z2c r p (wd A) h n ((List.range n).map h) (by simp; omega) (by intro b hb; obtain ⟨j, hj, rfl⟩ := List.mem_map.1 hb; exact hh j (by have := List.mem_range.1 hj; omega)) (y7 _ 0) (y7 _ 1) (z3v hA) hr0 hr1) rfl rfl ?_
  refine z6 (congrArg (fun z => PV r p (wd (pst (k3 r) z ((List.range n).map h))) (fun _ => 0) 0) (z8i hA)) ?_
  refine (QW 0)<|(gl)<|(QH 3) fun r4=>(jf)<|(Qf 4)<|(QA 4 0)<|(QI 2 0 0) ?_
  refine z9 rfl (Un 121) (xO _ 8 (y7 _ 0) (by decide)) rfl rfl ?_
  refine (Qf 4)<|(QA 5 1)<|(QI 2 1 0) ?_
  refine z9 rfl (Un 121) (xO _ 8 (y7 _ 1) (by decide)) rfl rfl ?_
  refine yn rfl rfl rfl (by simp [zL]) ?_
  refine (Av (sv (lw (wd (pst (k3 r) A ((List.range n).map h))))))<|(g3)<|(gr)<|(Qf 2)<|(QA 2 0)<|(QI 1 0 0) ?_
  refine z9 rfl (Un 121) (xO _ 8 hp0 (by decide)) rfl rfl ?_
  refine (Qf 2)<|(QA 3 1)<|(QI 1 1 0) ?_
  refine z9 rfl (Un 121) (xO _ 8 hp1 (by decide)) rfl rfl ?_
  refine yn rfl rfl rfl (by simp [zL]) ?_
  refine (Av (sv (lw p)))<|(g3)<|(gd)<|(jg) ?_
  refine Qz (fun kk E m => ∃ (i : Nat) (s : Nat → Nat), kk = 16 - i ∧ E = [(2, ptr r2), (3, ii 0), (6, ptr r4), (7, sv (lw (wd (pst (k3 r) A ((List.range n).map h))))), (8, sv (lw p)), (9, ii (cr (k3 (wd (pst (k3 r) A ((List.range n).map h)))) (k3 p) i)), (46, ii i)] ∧ m = [(0, some ⟨r1, cells 24 [pI .u64 2 r, pI .u64 2 p, pI .u64 3 (wd (pst (k3 r) A ((List.range n).map h))), pI .u8 16 (fun _ => 0), pV (.int .i64 0)], 247⟩), (1, some ⟨r2, arr .u8 16 (fun _ => 0), 213⟩), (2, some ⟨r3, arr .u8 16 h, 213⟩), (3, some ⟨r4, arr .u8 16 s, 213⟩)] ∧ (i ≤ 16) ∧ (∀ j, j < i → s j = tgn (k3 (wd (pst (k3 r) A ((List.range n).map h)))) (k3 p) j)) ⟨0, fun _ => 0, rfl, rfl, rfl, by omega, fun j hj => absurd hj (Nat.not_lt_zero j)⟩ ⟨rfl, rfl, rfl, rfl, rfl, by rw [z9y]; rfl, rfl, trivial⟩ ⟨rfl, rfl, rfl, rfl, trivial⟩ ?_
  rintro kk E m ⟨i, s, rfl, rfl, rfl, hf0_0, hf0_1⟩
  have hci := ziu (k3 (wd (pst (k3 r) A ((List.range n).map h)))) (k3 p) i
  have hx8 : (k3 (wd (pst (k3 r) A ((List.range n).map h)))) / 256 ^ i % 256 < 256 := Nat.mod_lt _ (by decide)
  have hy8 : (k3 p) / 256 ^ i % 256 < 256 := Nat.mod_lt _ (by decide)
  refine (gq) ?_
  refine (Qcd) (fun hc2=>?_) fun hc2=>?_
  ·refine Qk<|Qs<|Qb<|Qs<|Qp<|(Qm)<|(Qa)<|Qn<|Qs<|(Qg)<|(Qm)<|(Qm)<|(Qm) ?_
   refine Zm (Uu 9) rfl rfl (z05 (y7 _ 0) (by omega)) (by omega) rfl ?_
   refine (Qci)<|(gb) ?_
   refine Zm (Uu 9) rfl rfl (z05 hp0 (by omega)) (by omega) rfl ?_
   refine (Qci)<|(Q3)<|(Q3)<|(go)<|(Qm) ?_
   refine x8 (Uu 3) (Uu 5) rfl rfl rfl ?_
   refine (Qi)<|(Qu 3)<|Qn<|(j0)<|(Q5 256)<|(jb) ?_
   refine Qzr ⟨i + 1, upd s i _, rfl, rfl, rfl, by omega, yM hf0_1 (zeF (k3 (wd (pst (k3 r) A ((List.range n).map h)))) (k3 p) i)⟩ ⟨rfl, rfl, rfl, rfl, rfl, by rw [← z86]; rfl, rfl, trivial⟩ ⟨rfl, rfl, rfl, rfl, trivial⟩ ?_
   omega
  ·have hi16 : i = 16 := by omega
   subst hi16
   refine (jn)<|(Qd 3) ?_
   refine (Aa hf0_1)<|(Qt 1)<|(gt) ?_
   exact ⟨_, _, rfl, ya 1, yt⟩
 ·intro hc1
  exact absurd (of_decide_eq_false hc1) (by omega)
theorem zbY {G : Mem} (f : NN) (m : LN) (v : Value) (l : LN) (hf : L8 32 f) (hm : By m) (hv : Sh G v l) (hlb : By l) (hlen : l.length + 16 ≤ 9223372036854775807) :
  Fn Tryz.prog G 201 #[stP f m, v] (.tuple #[stP f (m ++ l), ii 0]) := by
 have hb := z28 hf
 have h := zcK (G := G) (w8 (bL f)) (fun j => w8 (bL f) (j + 2)) (ZO (k3 (w8 (bL f))) m) (wY m) (yx m).length v l hv hlb (Nat.lt_trans (Xs _ _) z13) (xd hb 0) (xd hb 1) (by rw [vE]; omega) (fun j _ => Wg hm j) (XE (vF hf) _ m) hlen
 rw [z2Z, z4J, z1V] at h
 exact h
theorem zaN {G : Mem} (f : NN) (m : LN) (hf : L8 32 f) (hm : By m) : Fp G 203 #[stP f m] (.tuple #[.agg (arr .u8 16 (ptg f m)), ii 0]) := by
 have hb := z28 hf
 have hok := XE (vF hf) (k3 (w8 (bL f))) m
 by_cases h0 : (yx m).length = 0
 ·have h := z7i (G := G) (w8 (bL f)) (fun j => w8 (bL f) (j + 2)) (ZO (k3 (w8 (bL f))) m) (wY m) (yx m).length (xd hb 0) (xd hb 1) (xd hb 2) (xd hb 3) h0 hok
  unfold stP cP
  rw [show ZO (k3 (w8 (bL f))) m = zfA (k3 (w8 (bL f))) m from (if_pos h0).symm] at h ⊢
  exact h
 ·have h := z6Y (G := G) (w8 (bL f)) (fun j => w8 (bL f) (j + 2)) (ZO (k3 (w8 (bL f))) m) (wY m) (yx m).length (xd hb 0) (xd hb 1) (xd hb 2) (xd hb 3) (Nat.lt_trans (Xs _ _) z13) (fun j _ => Wg hm j) (by omega) (by rw [vE]; omega) hok
  rw [z2s, show pst (k3 (w8 (bL f))) (ZO (k3 (w8 (bL f))) m) (yx m) = zfA (k3 (w8 (bL f))) m from (if_neg h0).symm] at h
  exact h
theorem zj9 (f : NN) (hf : L8 32 f) (l : LN) (hb : By l) (hl : l.length ≤ 140737488351232) : Fp G 173 #[.agg (arr .u8 32 f), sv l] (.agg (arr .u8 16 (ptg f l))) := by
 have hl2 : l.length + 16 ≤ 9223372036854775807 := by omega
 refine Qf1 Tryz.func173 ?_
 refine (g4)<|(Qh 0) fun r1=>(QH 1) fun r2=>Qn<|Qs<|QR ⟨[], 1, [22], none, none⟩<|(Qd 0) ?_
 refine (Ca (vH f hf)) ?_
 refine z6 (z8g f) ?_
 refine (Qm) ?_
 refine y3 2 (Uu 9) (Uu 22) (Uu 5) rfl hb (by simp only [maxLen]; omega) rfl rfl fun v1_1 oz1_1 ho1_1 => ?_
 refine vr oz1_1.toList rfl rfl (Un 201) (z4D (i := 2) rfl) (zbY (G := oz1_1.toList) f [] v1_1 l hf (by simp) (zG ho1_1) hb hl2) rfl rfl rfl ?_
 refine (Av (Value.tuple #[stP f l, ii 0]))<|(gi)<|(QH 3) fun r4=>(QW 3)<|(j9)<|(QD 3) ?_
 refine (Ca (zaN f l hf hb))<|(gi)<|(QH 4) fun r5=>(Qt 4)<|(j9)<|(Qd 4)<|(ja)<|Qr ?_
 exact ⟨_, rfl, ya 1⟩
theorem z1q (k : NN) (c : Nat) (nn : NN) (hk : L8 32 k) (hn : L8 12 nn) (hc : c < 4294967296) : Fp G 172 #[.agg (arr .u8 32 k), uw c, .agg (arr .u8 12 nn)] (.agg (arr .u8 64 (Yi k c nn))) := by
 have hal := zdE k c nn
 have hab := zhi (c := c) hk hn
 obtain ⟨A, hA⟩ : ∃ A, A = WP k c nn := ⟨_, rfl⟩
 rw [← hA] at hal hab
 have hbl := Yu (Vw (wrd A) 10) (wrd A)
 refine Qf1 Tryz.func172 ?_
 refine (g4)<|(Qh 0) fun r1=>(Qh 1) fun r2=>(QH 2) fun r3=>(jf)<|(Qsa 0 32)<|(QcS 0) ?_
 refine z6 (wm k 32) ?_
 refine yn (l := [101, 120, 112, 97, 110, 100, 32, 51, 50, 45, 98, 121, 116, 101, 32, 107]) rfl rfl rfl (by simp) ?_
 refine (Qm) ?_
 refine xz (Uu 109) (Uu 31) rfl rfl rfl ?_
 refine (Au (Nat.mod_eq_of_lt (show c < 18446744073709551616 by omega))) ?_
 refine (Ca (xO c 4 (by omega) (by decide))) ?_
 refine yn rfl rfl rfl (by simp [zL]) ?_
 refine (Qsa 0 12)<|(QcS 1) ?_
 refine z6 (wm nn 12) ?_
 refine yn rfl rfl rfl (by simp [zL]) ?_
 refine z6 (congrArg sv hA.symm) ?_
 refine (j9)<|(QH 3) fun r4=>Qn<|(jg) ?_
 refine Qz (fun kk E m => ∃ (i : Nat) (s : Nat → Nat), kk = 16 - i ∧ E = [(6, ptr r3), (7, sv A), (8, ptr r4), (24, ii i)] ∧ m = [(0, some ⟨r1, arr .u8 32 k, 30⟩), (1, some ⟨r2, arr .u8 12 nn, 146⟩), (2, some ⟨r3, arr .u8 64 (fun _ => 0), 111⟩), (3, some ⟨r4, arr .u32 16 s, 199⟩)] ∧ (i ≤ 16) ∧ (∀ t, t < i → s t = wrd A t)) ⟨0, fun _ => 0, rfl, rfl, rfl, by omega, fun t ht => absurd ht (Nat.not_lt_zero t)⟩ ⟨rfl, rfl, rfl, rfl, trivial⟩ ⟨rfl, rfl, rfl, rfl, trivial⟩ ?_
 rintro kk E m ⟨i, s, rfl, rfl, rfl, hf0_0, hf0_1⟩
 refine (gq) ?_
 refine (Qcd) (fun hc0=>?_) fun hc0=>?_
 ·refine Qk<|Qs<|Qb<|Qs<|Qp<|(Qm)<|(Qa)<|Qn<|(Qg)<|(Qm)<|(Q5 4)<|(Qm)<|(Q4 4)<|(Qm)<|(Qm)<|(Q7 4)<|(Qm)<|(Q7 4)<|(Q2 4) ?_
  refine zz (4 * i) (4 * i + 4) (Uu 9) rfl rfl rfl ⟨_, rfl⟩ ⟨_, rfl⟩ (by omega) (by omega) rfl ?_
  refine z6 (congrArg (fun z => sv ((A.drop (4 * i)).take z)) (show 4 * i + 4 - 4 * i = 4 by omega)) ?_
  refine (Ca (xJ _ (z4w A i) (z8W hab i)))<|(Qcw) ?_
  refine z6 (congrArg uw (Nat.mod_eq_of_lt (zfL hab i))) ?_
  refine (QB (4 * (i / 4)))<|(QB (i))<|(Qu 3)<|(jc) ?_
  refine Qzr ⟨i + 1, upd s i _, rfl, rfl, rfl, by omega, yM hf0_1 rfl⟩ ⟨rfl, rfl, rfl, rfl, trivial⟩ ⟨rfl, rfl, rfl, rfl, trivial⟩ ?_
  omega
 ·have hi16 : i = 16 := by omega
  subst hi16
  have hse : arr .u32 16 s = arr .u32 16 (wrd A) := zg hf0_1
  rw [hse]
  refine (jn)<|(Qd 3)<|(QH 4) fun r5=>(Qt 4)<|Qn<|(jg) ?_
  refine Qz (fun kk E m => ∃ (n : Nat), kk = 10 - n ∧ E = [(6, ptr r3), (8, ptr r4), (10, ptr r5), (44, ii n)] ∧ m = [(0, some ⟨r1, arr .u8 32 k, 30⟩), (1, some ⟨r2, arr .u8 12 nn, 146⟩), (2, some ⟨r3, arr .u8 64 (fun _ => 0), 111⟩), (3, some ⟨r4, arr .u32 16 (wrd A), 199⟩), (4, some ⟨r5, arr .u32 16 (Vw (wrd A) n), 199⟩)] ∧ (n ≤ 10)) ⟨0, rfl, rfl, rfl, by omega⟩ ⟨rfl, rfl, rfl, rfl, trivial⟩ ⟨rfl, rfl, rfl, rfl, rfl, trivial⟩ ?_
  rintro kk E m ⟨n, rfl, rfl, rfl, hf1_0⟩
  refine (gq) ?_
  refine (Qcd) (fun hc1=>?_) fun hc1=>?_
  ·refine Qk<|Qs<|Qb<|Qp<|(Qd 4) ?_
   refine (Ca (z68 _)) ?_
   refine (Ca (zjS _)) ?_
   refine (Ca (z68 _)) ?_
   refine (Ca (ziF _))<|(Qt 4)<|(jc) ?_
   refine Qzr ⟨n + 1, rfl, rfl, rfl, by omega⟩ ⟨rfl, rfl, rfl, rfl, trivial⟩ ⟨rfl, rfl, rfl, rfl, rfl, trivial⟩ ?_
   omega
  ·have hn10 : n = 10 := by omega
   subst hn10
   refine (jn) ?_
   refine wB (v := sv []) rfl rfl ?_
   refine Qn<|(jg) ?_
   refine Qz (fun kk E m => ∃ (q : Nat), kk = 16 - q ∧ E = [(6, ptr r3), (8, ptr r4), (10, ptr r5), (11, sv (z43 (Vw (wrd A) 10) (wrd A) q)), (52, ii q)] ∧ m = [(0, some ⟨r1, arr .u8 32 k, 30⟩), (1, some ⟨r2, arr .u8 12 nn, 146⟩), (2, some ⟨r3, arr .u8 64 (fun _ => 0), 111⟩), (3, some ⟨r4, arr .u32 16 (wrd A), 199⟩), (4, some ⟨r5, arr .u32 16 (Vw (wrd A) 10), 199⟩)] ∧ (q ≤ 16)) ⟨0, rfl, rfl, rfl, by omega⟩ ⟨rfl, rfl, rfl, rfl, rfl, trivial⟩ ⟨rfl, rfl, rfl, rfl, rfl, trivial⟩ ?_
   rintro kk E m ⟨q, rfl, rfl, rfl, hf2_0⟩
   have hbq := hbl q
   refine (gq) ?_
   refine (Qcd) (fun hc2=>?_) fun hc2=>?_
   ·refine Qk<|Qs<|Qb<|Qs<|Qp<|(Qm)<|(Qa)<|Qn<|(Qg)<|(Qm)<|(Qm)<|(Q5 4)<|(Qm)<|(Q4 4)<|(QB (4 * (q / 4)))<|(QB (q))<|(Q1 4)<|(Qm)<|(Q5 4)<|(Qm)<|(Q4 4)<|(QB (4 * (q / 4)))<|(QB (q))<|(Q1 3) ?_
    refine (Qaw) ?_
    refine xz (Uu 109) (Uu 31) rfl rfl rfl ?_
    refine z6 (congrArg u (Nat.mod_eq_of_lt (Nat.lt_trans (Nat.mod_lt _ (by decide)) (by decide)))) ?_
    refine z9 rfl (Un 121) (xO _ 4 (Nat.lt_trans (Nat.mod_lt _ (by decide)) (by decide)) (by decide)) rfl rfl ?_
    refine yn rfl rfl rfl (by rw [zL]; omega) ?_
    refine (jb) ?_
    refine Qzr ⟨q + 1, rfl, rfl, rfl, by omega⟩ ⟨rfl, rfl, rfl, rfl, rfl, trivial⟩ ⟨rfl, rfl, rfl, rfl, rfl, trivial⟩ ?_
    omega
   ·have hq16 : q = 16 := by omega
    subst hq16
    refine (jn)<|(QH 5) fun r6=>(gl)<|(Qsa 0 64)<|(Qm) ?_
    refine YD (i := 5) (Uu 22) (Uz 5) rfl rfl (z3Z _ _ 16) rfl (by omega) rfl ?_
    refine (gl)<|(Qd 5) ?_
    refine z6 (congrArg Value.agg (zef _ (hbl 16))) ?_
    refine (Qt 2)<|Qn<|Qr ?_
    subst hA
    exact ⟨_, rfl, ya 2⟩
theorem z5q (k : NN) (c : Nat) (nn : NN) (v : Value) (l : LN) (at_ : Nat) (hv : Sh G v l) (hat : l.length ≤ at_) : Fq G [] 175 #[.agg (arr .u8 32 k), uw c, .agg (arr .u8 12 nn), v, ii at_] (fun v l1 nw => l1 = [] ∧ ∃ v', v = v' ∧ OwnS 5 1 v' (l.length - at_) ((Zc k c nn l at_).map by8) nw) := by
 refine QfN Tryz.func175 ?_
 refine (g4)<|(Qh 0) fun r1=>(Qh 1) fun r2=>(g3)<|(ge)<|(Qm)<|(QC hv)<|(QE)<|(Qat)<|(gu)<|(j4) ?_
 exact ⟨_, _, _, 99, rfl, yt, (zw (wT _ _) (by omega) (by rw [zbd k c nn l hat]; rfl)), rfl⟩
theorem zaD (k : NN) (c : Nat) (nn : NN) (v : Value) (l : LN) (at_ : Nat) (hv : Sh G v l) (hk : L8 32 k) (hn : L8 12 nn) (hat : at_ < l.length) (h64 : at_ % 64 = 0) (hlen : l.length ≤ 4294967296) (ih : Fq G [] 175 #[.agg (arr .u8 32 k), uw c, .agg (arr .u8 12 nn), v, ii (at_ + 64)] (fun v l1 nw => l1 = [] ∧ ∃ v', v = v' ∧ OwnS 5 1 v' (l.length - (at_ + 64)) ((Zc k c nn l (at_ + 64)).map by8) nw)) : Fq G [] 175 #[.agg (arr .u8 32 k), uw c, .agg (arr .u8 12 nn), v, ii at_] (fun v l1 nw => l1 = [] ∧ ∃ v', v = v' ∧ OwnS 5 1 v' (l.length - at_) ((Zc k c nn l at_).map by8) nw) := by
 refine QfN Tryz.func175 ?_
 refine (g4)<|(Qh 0) fun r1=>(Qh 1) fun r2=>(g3)<|(ge)<|(Qm)<|(QC hv)<|(QE)<|(gw)<|(g4)<|(Qd 0)<|(gb)<|(Q5 64)<|(Qcw)<|(Qaw)<|(Qd 1) ?_
 refine z9 rfl (Un 172) (z1q k _ nn hk hn (Nat.mod_lt _ (by decide))) rfl rfl ?_
 refine (QH 2) fun r3=>(Qt 2)<|Qn<|(gd)<|(ge)<|(g3)<|Qb ?_
 refine Qz (fun kk E m => ∃ (i : Nat) (vo : Value) (oz : Option Blk), kk = l.length - (at_ + i) ∧ E = [(1, uw c), (3, v), (4, ii at_), (5, ptr r1), (7, ptr r2), (11, ptr r3), (12, vo), (13, ii (at_ + i))] ∧ m = [(0, some ⟨r1, arr .u8 32 k, 30⟩), (1, some ⟨r2, arr .u8 12 nn, 146⟩), (2, some ⟨r3, (arr .u8 64 (Yi k ((c + at_ / 64 % 4294967296) % 4294967296) nn)), 111⟩), (9, oz)] ∧ (i ≤ 64) ∧ (at_ + i ≤ l.length) ∧ (OwnS 5 1 vo i ((z1v k c nn l at_ i).map by8) (Option.toList oz))) ⟨0, y4, none, rfl, rfl, rfl, by omega, by omega, wT _ _⟩ ⟨rfl, rfl, rfl, rfl, rfl, rfl, rfl, rfl, trivial⟩ ⟨rfl, rfl, rfl, rfl, trivial⟩ ?_
 rintro kk E m ⟨i, vo, oz, rfl, rfl, rfl, hf0_0, hf0_1, hf0_2⟩
 refine Qs<|Qs ?_
 rcases (show at_ + i < l.length ∨ ¬ at_ + i < l.length by omega) with hlt | hlt
 ·skip
  refine Qp<|(gb)<|(QC hv)<|(Ql)<|(Qat)<|(gm)<|(g7)<|(Q2 64)<|(Qy)<|(Ql)<|(QT)<|Qn ?_
  refine (Qcd) (fun hc1=>?_) fun hc1=>?_
  ·refine Qk<|Qs<|Qb<|(Qg)<|(Qm)<|(Qm)<|(Qm) ?_
   refine yf hv (Uu 22) (Uz 5) rfl rfl (by omega) rfl ?_
   refine (QS) ?_
   refine zR hv za (Uu 5) rfl rfl (by rw [List.getElem?_map, List.getElem?_eq_getElem (show at_ + i < l.length by omega)]; rfl) rfl ?_
   refine (gb) ?_
   refine xH rfl rfl rfl (by omega) (by omega) ?_
   refine z6 (congrArg (Value.int .i64) (show ((at_ + i : Nat) : Int) - ((at_ : Nat) : Int) = ((i : Nat) : Int) by omega)) ?_
   refine (Qi)<|(Q1 2) ?_
   refine vu rfl rfl rfl  ?_
   refine z6 (congrArg by8 (zgL k c nn l (show at_ + i < l.length by omega) h64 (show i < 64 by omega))) ?_
   refine yl 3 #[by8 (z1B k c nn l (at_ + i))] (Uu 22 rfl) (Uz 5 rfl) (Ub 5 rfl) (by decide) (by decide) rfl (by kernel_rfl) rfl fun r4 => ?_
   refine yQ 9 hf0_2 (xp _ _ (by rfl)) rfl (ym 3 rfl ⟨[], trivial⟩) (Uu 22) (Uz 5) (Uy 5) (Ub 5) (by rfl) rfl rfl (by simp [Value.oneCell']) (by simp only [maxLen]; omega) (by omega) rfl fun v4_1 oz4_1 ho4_1 => ?_
   refine (g3)<|(j0)<|(Q2 1)<|(g3) ?_
   refine Qzr ⟨i + 1, _, _, rfl, rfl, rfl, by omega, by omega, zw ho4_1 rfl (by rw [← zb7, List.map_append]; rfl)⟩ ⟨rfl, rfl, rfl, rfl, rfl, rfl, rfl, rfl, trivial⟩ ⟨rfl, rfl, rfl, rfl, trivial⟩ ?_
   omega
  ·have hfin : (i = 64 ∧ at_ + 64 ≤ l.length) ∨ (at_ + i = l.length) := by omega
   refine Qe<|Qs<|QR ⟨[], 4, [], none, none⟩<|(Qm)<|(Qd 0)<|(Qm)<|(Qd 1)<|(gb)<|(Q2 64) ?_
   refine zI 3 (fun v => v) rfl rfl (Un 175) za ih (by simp only [maxLen]; omega) (by rw [List.length_map, wA, Nat.mul_one]) rfl rfl fun v4_1 oz4_1 ho4_1 => ?_
   refine yQ 9 hf0_2 ho4_1.shows rfl (zH 3 rfl ⟨[], trivial⟩) (Uu 22) (Uz 5) (Uy 5) (Ub 5) (by rfl) rfl rfl W0 (by simp only [maxLen]; omega) (by omega) rfl fun v4_2 oz4_2 ho4_2 => ?_
   refine (gt) ?_
   exact ⟨_, _, _, 9, rfl, yt, (zw ho4_2 (by omega) (by rw [← List.map_append, z4f k c nn l hfin (by omega)])), rfl⟩
 ·skip
  refine Qp<|(gb)<|(QC hv)<|(Ql)<|(Qaf)<|(j6)<|(QF)<|(gh) ?_
  have hfin : (i = 64 ∧ at_ + 64 ≤ l.length) ∨ (at_ + i = l.length) := by omega
  refine Qe<|Qs<|QR ⟨[], 4, [], none, none⟩<|(Qm)<|(Qd 0)<|(Qm)<|(Qd 1)<|(gb)<|(Q2 64) ?_
  refine zI 3 (fun v => v) rfl rfl (Un 175) za ih (by simp only [maxLen]; omega) (by rw [List.length_map, wA, Nat.mul_one]) rfl rfl fun v4_1 oz4_1 ho4_1 => ?_
  refine yQ 9 hf0_2 ho4_1.shows rfl (zH 3 rfl ⟨[], trivial⟩) (Uu 22) (Uz 5) (Uy 5) (Ub 5) (by rfl) rfl rfl W0 (by simp only [maxLen]; omega) (by omega) rfl fun v4_2 oz4_2 ho4_2 => ?_
  refine (gt) ?_
  exact ⟨_, _, _, 9, rfl, yt, (zw ho4_2 (by omega) (by rw [← List.map_append, z4f k c nn l hfin (by omega)])), rfl⟩
theorem z88 {G : Mem} (k : NN) (c : Nat) (nn : NN) (v : Value) (l : LN) (hv : Sh G v l) (hk : L8 32 k) (hn : L8 12 nn) (hlen : l.length ≤ 4294967296) :
  ∀ m at_, at_ % 64 = 0 → l.length ≤ at_ + 64 * m → Fx Tryz.prog G [] 175 #[.agg (arr .u8 32 k), uw c, .agg (arr .u8 12 nn), v, ii at_] (fun v l1 nw => l1 = [] ∧ ∃ v', v = v' ∧ OwnS 5 1 v' (l.length - at_) ((Zc k c nn l at_).map by8) nw)
 | 0, at_, _, h => z5q k c nn v l at_ hv (by omega)
 | m + 1, at_, h64, h => by
  by_cases hat : l.length ≤ at_
  ·exact z5q k c nn v l at_ hv hat
  ·exact zaD k c nn v l at_ hv hk hn (by omega) h64 hlen (z88 k c nn v l hv hk hn hlen m (at_ + 64) (by omega) (by omega))
theorem z4a (k : NN) (c : Nat) (nn : NN) (v : Value) (l : LN) (hv : Sh G v l) (hk : L8 32 k) (hn : L8 12 nn) (hc : c < 4294967296) (hb : l.length ≤ 1600) (ho : ¬ 64 * (4294967296 - c) < l.length) : Fq G [] 136 #[.agg (arr .u8 32 k), uw c, .agg (arr .u8 12 nn), v] (fun v l1 nw => l1 = [] ∧ ∃ v', v = .tuple #[v', ii 0] ∧ OwnS 5 1 v' (l.length - 0) ((Zc k c nn l 0).map by8) nw) := by
 refine QfM Tryz.func136 ?_
 refine (g4)<|(Qh 0) fun r1=>(Qh 1) fun r2=>(j3)<|(QC hv)<|(QG)<|(gw)<|(ge)<|(QC hv)<|(Qm)<|(Qci) ?_
 refine xH (p := 4294967296) rfl rfl rfl (by omega) (by omega) ?_
 refine z6 (congrArg (Value.int .i64) (show (4294967296 : Int) - ((c : Nat) : Int) = ((4294967296 - c : Nat) : Int) by omega)) ?_
 refine (Q7 64)<|(QG)<|(gw)<|Qs<|QR ⟨[], 4, [], none, none⟩<|(Qd 0)<|(Qm)<|(Qd 1)<|(Qm) ?_
 refine zI 2 (fun v => v) rfl rfl (Un 175) za (z88 k c nn v l hv hk hn (by omega) 25 0 rfl (by omega)) (by simp only [maxLen]; omega) (by rw [List.length_map, wA, Nat.mul_one]) rfl rfl fun v3_1 oz3_1 ho3_1 => ?_
 refine (gy) ?_
 exact ⟨_, _, _, _, 2, rfl, yt, yt, ho3_1, rfl⟩
theorem Xg (n : Nat) (hn : n ≤ 1000000) : Fp G 127 #[ii n] (sv (zrs n)) := by
 refine Qf1 Tryz.func127 ?_
 refine (g4) ?_
 refine wB (v := sv []) rfl rfl ?_
 refine Qn<|(g6) ?_
 refine z3k 0 (Uu 22) (Uz 5) (Uy 5) (Ub 5) rfl rfl rfl (by omega) (by omega) rfl fun r1 => ?_
 refine zx (z80 _ _ _) (ym 0 rfl ⟨[], trivial⟩) (Uu 22) (Uu 5) (Uu 9) rfl rfl rfl ?_
 refine (gt) ?_
 exact ⟨_, rfl, yt⟩
theorem z99 (l : LN) (hl : l.length ≤ 1000000) : Fp G 174 #[sv l] (sv (Vb l)) := by
 refine Qf1 Tryz.func174 ?_
 refine (g4) ?_
 refine wB (v := sv []) rfl rfl ?_
 refine Qn<|(g6)<|(Qm)<|(QU)<|(Q4 16) ?_
 refine yP (p := 16) rfl rfl rfl (by omega) (by omega) ?_
 refine (Q4 16) ?_
 refine (Ca (Xg ((16 - l.length % 16) % 16) (by omega))) ?_
 refine yn rfl rfl rfl (by rw [wC]; omega) ?_
 refine (Av (sv (Vb l)))<|(gt) ?_
 exact ⟨_, rfl, yt⟩
theorem z5s (k nn : NN) (ad b : LN) (hk : L8 32 k) (hn : L8 12 nn) (ha : By ad) (hb : By b) (hal : ad.length ≤ 10000) (hbl : b.length ≤ 10000) : Fp G 135 #[.agg (arr .u8 32 k), .agg (arr .u8 12 nn), sv ad, sv b] (sv (zgz k nn ad b)) := by
 have hpa := YE ad
 have hpb := YE b
 have hml := WM ad b
 refine Qf1 Tryz.func135 ?_
 refine (g4)<|(Qh 0) fun r1=>(Qh 1) fun r2=>?_
 refine wB (v := sv []) rfl rfl ?_
 refine (gl)<|(jo) ?_
 refine (Ca (z1q k 0 nn hk hn (by decide)))<|(QH 2) fun r3=>(Qt 2)<|(gl)<|(QH 3) fun r4=>(jf)<|(Qsa 0 32) ?_
 refine xo 0 32 (Uu 111) (Uz 5) rfl rfl rfl rfl ⟨_, rfl⟩ (by omega) (by omega) (by omega) rfl ?_
 refine z3O (i := 3) (Uu 22) (Uz 5) (WU r3 64 (Yi k 0 nn) 111 0 32 64 (by decide) (by decide)) (ym 2 rfl ⟨[], trivial⟩) rfl rfl rfl (by omega) rfl ?_
 refine (jf)<|(Qd 3) ?_
 refine (Aa (zbi k nn))<|(Qm) ?_
 refine (Ca (z99 ad (by omega)))<|(Qm) ?_
 refine (Ca (z99 b (by omega))) ?_
 refine yn rfl rfl rfl (by omega) ?_
 refine (Qm)<|(QU) ?_
 refine Wz (Uu 3) (Uu 31) rfl rfl rfl (by omega) ?_
 refine (Ca (xO ad.length 8 (by omega) (by decide))) ?_
 refine yn rfl rfl rfl (by rw [zL, List.length_append]; omega) ?_
 refine (Qm)<|(QU) ?_
 refine Wz (Uu 3) (Uu 31) rfl rfl rfl (by omega) ?_
 refine (Ca (xO b.length 8 (by omega) (by decide))) ?_
 refine yn rfl rfl rfl (by rw [zL, List.length_append, List.length_append, zL]; omega) ?_
 refine (Av (sv (Z8 ad b))) ?_
 refine (Ca (zj9 (z1G k nn) (z9B k nn) (Z8 ad b) (z6k ha hb) (by omega)))<|(QH 4) fun r5=>(Qt 4)<|(gl)<|(Qsa 0 16)<|(QcS 4) ?_
 refine z6 (wm (ptg (z1G k nn) (Z8 ad b)) 16) ?_
 refine (gt) ?_
 exact ⟨_, rfl, yt⟩
theorem z1E (k nn : NN) (va vt : Value) (ad tx : LN) (hva : Sh G va ad) (hvt : Sh G vt tx) (h : ad.length ≤ 200) (h2 : 816 < tx.length) : Fp G 97 #[.agg (arr .u8 32 k), .agg (arr .u8 12 nn), va, vt] (.tuple #[y4, ii 1]) := by
 refine Qf2 Tryz.func97 ?_
 refine (g4)<|(Qh 0) fun r1=>(Qh 1) fun r2=>(j3)<|(QC hva)<|(QG)<|(Qaf)<|(gm)<|(QC hvt)<|(Qy)<|(QG)<|(Qat)<|(QF)<|(gu)<|(g4)<|(gy) ?_
 exact ⟨_, _, rfl, yt, yt⟩
theorem z0q (k nn : NN) (va vt : Value) (ad tx : LN) (hva : Sh G va ad) (hvt : Sh G vt tx) (h : ad.length ≤ 200) (h2 : tx.length < 16) : Fp G 97 #[.agg (arr .u8 32 k), .agg (arr .u8 12 nn), va, vt] (.tuple #[y4, ii 4]) := by
 refine Qf2 Tryz.func97 ?_
 refine (g4)<|(Qh 0) fun r1=>(Qh 1) fun r2=>(j3)<|(QC hva)<|(QG)<|(Qaf)<|(gm)<|(QC hvt)<|(Qy)<|(QG)<|(Qaf)<|(QF)<|(gn)<|(ge)<|(QC hvt)<|(Ql)<|(Qat)<|(gu)<|(g4)<|(gy) ?_
 exact ⟨_, _, rfl, yt, yt⟩
theorem z1A (k nn : NN) (va vt : Value) (ad tx : LN) (hk : L8 32 k) (hn : L8 12 nn) (hva : Sh G va ad) (hvt : Sh G vt tx) (hab : By ad) (htb : By tx) (h : ad.length ≤ 200) (h2 : 16 ≤ tx.length) (h3 : tx.length ≤ 816) (ho : ¬ Xa k nn ad tx) : Fp G 97 #[.agg (arr .u8 32 k), .agg (arr .u8 12 nn), va, vt] (.tuple #[y4, ii 10]) := by
 have hv1 : Shows G 1 (yr 1 vt 0 (tx.length - 16)) (tx.take (tx.length - 16)).length ((tx.take (tx.length - 16)).map by8) := hvt.cut (by omega) (by omega) (by simp)
 have hv2 : Shows G 1 (yr 1 vt (tx.length - 16) tx.length) (tx.drop (tx.length - 16)).length ((tx.drop (tx.length - 16)).map by8) := hvt.cut (by omega) (by omega) (by rw [List.take_of_length_le (by simp)])
 refine Qf2 Tryz.func97 ?_
 refine (g4)<|(Qh 0) fun r1=>(Qh 1) fun r2=>(j3)<|(QC hva)<|(QG)<|(Qaf)<|(gm)<|(QC hvt)<|(Qy)<|(QG)<|(Qaf)<|(QF)<|(gn)<|(ge)<|(QC hvt)<|(Ql)<|(gw)<|(g6)<|(QC hvt) ?_
 refine yP (q := 16) rfl rfl rfl (by omega) (by omega) ?_
 refine (g3)<|Qs<|(gr)<|(jo)<|(Qm) ?_
 refine zx (l := ad) hva za (Uu 22) (Uu 5) (Uu 9) rfl rfl rfl ?_
 refine (gb) ?_
 refine yi 0 (tx.length - 16) hvt (Uu 22) (Uz 5) rfl rfl rfl rfl ⟨_, rfl⟩ (by omega) (by omega) rfl ?_
 refine zx (l := (tx.take (tx.length - 16))) hv1 za (Uu 22) (Uu 5) (Uu 9) rfl rfl rfl ?_
 refine (Ca (z5s k nn ad (tx.take (tx.length - 16)) hk hn hab (fun x hx => htb x (List.mem_of_mem_take hx)) (by omega) (by simp; omega)))<|(gb) ?_
 refine yi (tx.length - 16) tx.length hvt (Uu 22) (Uz 5) rfl rfl rfl ⟨_, rfl⟩ rfl (by omega) (by omega) rfl ?_
 refine zx (l := (tx.drop (tx.length - 16))) hv2 za (Uu 22) (Uu 5) (Uu 9) rfl rfl rfl ?_
 refine z9e rfl rfl rfl (z8r _ _ _ _) (fun x hx => htb x (List.mem_of_mem_drop hx)) ?_
 refine z6 (congrArg Value.bool (decide_eq_true ho)) ?_
 refine (gu)<|(g4)<|(gy) ?_
 exact ⟨_, _, rfl, yt, yt⟩
theorem z58 (k nn : NN) (va vt : Value) (ad tx : LN) (hk : L8 32 k) (hn : L8 12 nn) (hva : Sh G va ad) (hvt : Sh G vt tx) (hab : By ad) (htb : By tx) (h : ad.length ≤ 200) (h2 : 16 ≤ tx.length) (h3 : tx.length ≤ 816) (ho : Xa k nn ad tx) : Fq G [] 97 #[.agg (arr .u8 32 k), .agg (arr .u8 12 nn), va, vt] (R2 5 (X0 k nn tx)) := by
 have hv1 : Shows G 1 (yr 1 vt 0 (tx.length - 16)) (tx.take (tx.length - 16)).length ((tx.take (tx.length - 16)).map by8) := hvt.cut (by omega) (by omega) (by simp)
 have hv2 : Shows G 1 (yr 1 vt (tx.length - 16) tx.length) (tx.drop (tx.length - 16)).length ((tx.drop (tx.length - 16)).map by8) := hvt.cut (by omega) (by omega) (by rw [List.take_of_length_le (by simp)])
 have htl : (tx.take (tx.length - 16)).length = tx.length - 16 := by simp
 have hol := wh k nn tx
 refine QfM Tryz.func97 ?_
 refine (g4)<|(Qh 0) fun r1=>(Qh 1) fun r2=>(j3)<|(QC hva)<|(QG)<|(Qaf)<|(gm)<|(QC hvt)<|(Qy)<|(QG)<|(Qaf)<|(QF)<|(gn)<|(ge)<|(QC hvt)<|(Ql)<|(gw)<|(g6)<|(QC hvt) ?_
 refine yP (q := 16) rfl rfl rfl (by omega) (by omega) ?_
 refine (g3)<|Qs<|(gr)<|(jo)<|(Qm) ?_
 refine zx (l := ad) hva za (Uu 22) (Uu 5) (Uu 9) rfl rfl rfl ?_
 refine (gb) ?_
 refine yi 0 (tx.length - 16) hvt (Uu 22) (Uz 5) rfl rfl rfl rfl ⟨_, rfl⟩ (by omega) (by omega) rfl ?_
 refine zx (l := (tx.take (tx.length - 16))) hv1 za (Uu 22) (Uu 5) (Uu 9) rfl rfl rfl ?_
 refine (Ca (z5s k nn ad (tx.take (tx.length - 16)) hk hn hab (fun x hx => htb x (List.mem_of_mem_take hx)) (by omega) (by simp; omega)))<|(gb) ?_
 refine yi (tx.length - 16) tx.length hvt (Uu 22) (Uz 5) rfl rfl rfl ⟨_, rfl⟩ rfl (by omega) (by omega) rfl ?_
 refine zx (l := (tx.drop (tx.length - 16))) hv2 za (Uu 22) (Uu 5) (Uu 9) rfl rfl rfl ?_
 refine z9e rfl rfl rfl (z8r _ _ _ _) (fun x hx => htb x (List.mem_of_mem_drop hx)) ?_
 refine z6 (congrArg Value.bool (decide_eq_false (fun h => h ho))) ?_
 refine (gn)<|Qs<|(Qq ⟨[], 4, [], none, none⟩)<|(jo)<|(gb) ?_
 refine yi 0 (tx.length - 16) hvt (Uu 22) (Uz 5) rfl rfl rfl rfl ⟨_, rfl⟩ (by omega) (by omega) rfl ?_
 refine zI 2 (fun v => .tuple #[v, ii 0]) rfl rfl (Un 136) za (z4a k 1 nn _ (tx.take (tx.length - 16)) hv1 hk hn (by decide) (by omega) (by omega)) (by simp only [maxLen]; omega) (by rw [List.length_map, wA, Nat.mul_one]) rfl rfl fun v4_1 oz4_1 ho4_1 => ?_
 refine (ga)<|(gy) ?_
 exact ⟨_, _, _, _, 2, rfl, yt, yt, (zw ho4_1 (by rw [htl, hol]; omega) rfl), rfl⟩
theorem z09 (n : Nat) (hn : n < 18446744073709551616) : Fp G 98 #[u n] (.agg (arr .u8 12 (xy n))) := by
 refine Qf1 Tryz.func98 ?_
 refine (g4)<|(QH 0) fun r1=>(gl)<|(QH 1) fun r2=>(jf) ?_
 refine xo 4 12 (Uu 146) (Uz 5) rfl rfl rfl ⟨_, rfl⟩ rfl (by omega) (by omega) (by omega) rfl ?_
 refine (Qm) ?_
 refine (Ca (xO n 8 hn (by decide))) ?_
 refine YD (i := 1) (Uu 22) (Uz 5) rfl rfl (vZ _ _) rfl (by omega) rfl ?_
 refine (gl)<|(Qd 1) ?_
 refine (Aa (zbs n))<|(Qt 0)<|Qn<|Qr ?_
 exact ⟨_, rfl, ya 0⟩
theorem vG (has : Bool) (k : NN) (n : Nat) : Fp G 96 #[CV has k n] (ii (if okC has k n = true then 0 else 9)) := by
 refine Qf1 Tryz.func96 ?_
 refine (g4)<|(Qh 0) fun r1=>(g3)<|Qs<|Qs ?_
 rcases zcA has k n with ⟨hk0, hko⟩ | ⟨hk0, hk1, hko⟩ | ⟨hk0, hk1, hk2, hko⟩ | ⟨hk0, hk1, hk2, hko⟩
 ·skip
  refine Qp<|(jj)<|(Q0) ?_
  refine z6 (congrArg (fun z => Value.bool (!z)) hk0) ?_
  refine (j6)<|(Qw)<|(Qw)<|(Qw)<|(Qw)<|(Qo)<|(QF)<|(gn)<|(j4) ?_
  rw [hko]
  exact ⟨_, rfl, yt⟩
 ·skip
  refine Qp<|(jj)<|(Q0) ?_
  refine z6 (congrArg (fun z => Value.bool (!z)) hk0) ?_
  refine (g7)<|(Qf 33)<|(Qy)<|(QV 2 0)<|(Qy)<|(QN)<|(Qat)<|(Qy)<|(j6)<|(Qy)<|(QT)<|(QT)<|(gu)<|(j4) ?_
  rw [hko]
  exact ⟨_, rfl, yt⟩
 ·skip
  refine Qp<|(jj)<|(Q0) ?_
  refine z6 (congrArg (fun z => Value.bool (!z)) hk0) ?_
  refine (g7)<|(Qf 33)<|(Qy)<|(QV 2 0)<|(Qy)<|(QN)<|(Qaf)<|(Qy)<|(g7)<|(Qf 1)<|(Qy)<|(Qv 1 0)<|(Qy) ?_
  refine wo (Ub 30 rfl) (Uu 30 rfl) z5u rfl ?_
  refine (Qy) ?_
  refine W2 (Uu 30) (Uu 5) (Uz 5) z0Y rfl rfl rfl ?_
  refine z6 (congrArg (fun z => Value.bool (!z)) hk2) ?_
  refine (Qy)<|(QF)<|(QT)<|(gu)<|(j4) ?_
  rw [hko]
  exact ⟨_, rfl, yt⟩
 ·skip
  refine Qp<|(jj)<|(Q0) ?_
  refine z6 (congrArg (fun z => Value.bool (!z)) hk0) ?_
  refine (g7)<|(Qf 33)<|(Qy)<|(QV 2 0)<|(Qy)<|(QN)<|(Qaf)<|(Qy)<|(g7)<|(Qf 1)<|(Qy)<|(Qv 1 0)<|(Qy) ?_
  refine wo (Ub 30 rfl) (Uu 30 rfl) z5u rfl ?_
  refine (Qy) ?_
  refine W2 (Uu 30) (Uu 5) (Uz 5) z0Y rfl rfl rfl ?_
  refine z6 (congrArg (fun z => Value.bool (!z)) hk2) ?_
  refine (Qy)<|(QF)<|(QT)<|(gn)<|(j4) ?_
  rw [hko]
  exact ⟨_, rfl, yt⟩
theorem zcG (o has : Bool) (k : NN) (n : Nat) (va vt : Value) (hok : okC has k n = false) : Fp G 55 #[.bool o, CV has k n, va, vt] (.tuple #[CZ, y4, ii 9]) := by
 refine Qf3 Tryz.func55 ?_
 refine (g4)<|(Qh 0) fun r1=>(QH 1) fun r2=>(g8)<|Qs<|(gc) ?_
 refine (Ca (vG has k n)) ?_
 refine (Ai (show (if okC has k n = true then 0 else 9) = 9 by rw [hok]; rfl))<|(jr)<|(gu)<|(g4) ?_
 refine zC (cells 34 [pV (.bool false), pI .u8 32 (fun _ => 0), pV (.int .u64 0)]) (Ub 33 rfl) (Uu 33 rfl) vL rfl (by kernel_rfl) rfl ?_
 refine (Qm)<|(QW 1)<|(gy) ?_
 exact ⟨_, _, _, rfl, yb 1, yt, yt⟩
theorem zbH (o : Bool) (k : NN) (n : Nat) (va vt : Value) (tx : LN) (hvt : Sh G vt tx) (hok : okC false k n = true) (hl : 800 < tx.length) : Fp G 55 #[.bool o, CV false k n, va, vt] (.tuple #[CZ, y4, ii 1]) := by
 refine Qf3 Tryz.func55 ?_
 refine (g4)<|(Qh 0) fun r1=>(QH 1) fun r2=>(g8)<|Qs<|(gc) ?_
 refine (Ca (vG false k n)) ?_
 refine (Ai (show (if okC false k n = true then 0 else 9) = 0 by rw [hok]; rfl))<|(jr)<|(gn)<|(gs)<|(jj)<|(Q0)<|(gu)<|(ge)<|(QC hvt)<|(QG)<|(Qat)<|(gu)<|(g4) ?_
 refine zC (cells 34 [pV (.bool false), pI .u8 32 (fun _ => 0), pV (.int .u64 0)]) (Ub 33 rfl) (Uu 33 rfl) vL rfl (by kernel_rfl) rfl ?_
 refine (QW 1)<|(gy) ?_
 exact ⟨_, _, _, rfl, yb 1, yt, yt⟩
theorem z75 (o : Bool) (k : NN) (n : Nat) (va vt : Value) (tx : LN) (hvt : Sh G vt tx) (hok : okC false k n = true) (hl : tx.length ≤ 800) : Fp G 55 #[.bool o, CV false k n, va, vt] (.tuple #[CV false k n, vt, ii 0]) := by
 refine Qf3 Tryz.func55 ?_
 refine (g4)<|(Qh 0) fun r1=>(QH 1) fun r2=>(g8)<|Qs<|(gc) ?_
 refine (Ca (vG false k n)) ?_
 refine (Ai (show (if okC false k n = true then 0 else 9) = 0 by rw [hok]; rfl))<|(jr)<|(gn)<|(gs)<|(jj)<|(Q0)<|(gu)<|(ge)<|(QC hvt)<|(QG)<|(gw)<|(gc)<|(Qm)<|(QW 1)<|(gy) ?_
 exact ⟨_, _, _, rfl, yb 1, yt, yt⟩
theorem z9L (o : Bool) (k : NN) (n : Nat) (va vt : Value) (hn : n = 18446744073709551615) : Fp G 55 #[.bool o, CV true k n, va, vt] (.tuple #[CZ, y4, ii 11]) := by
 have hok : okC true k n = true := rfl
 refine Qf3 Tryz.func55 ?_
 refine (g4)<|(Qh 0) fun r1=>(QH 1) fun r2=>(g8)<|Qs<|(gc) ?_
 refine (Ca (vG true k n)) ?_
 refine (Ai (show (if okC true k n = true then 0 else 9) = 0 by rw [hok]; rfl))<|(jr)<|(gn)<|(gs)<|(jj)<|(Q0)<|(gn)<|(gs)<|(Qf 33)<|(QV 2 0) ?_
 refine wR (q := 1) rfl rfl rfl  ?_
 refine (Qc) ?_
 refine (Ab (decide_eq_true (by rw [hn]; decide)))<|(gu)<|(g4) ?_
 refine zC (cells 34 [pV (.bool false), pI .u8 32 (fun _ => 0), pV (.int .u64 0)]) (Ub 33 rfl) (Uu 33 rfl) vL rfl (by kernel_rfl) rfl ?_
 refine (QW 1)<|(gy) ?_
 exact ⟨_, _, _, rfl, yb 1, yt, yt⟩
theorem z1C (k : NN) (n : Nat) (va vt : Value) (hn : n < 18446744073709551615) (e : Nat) (he : e ≠ 0) (hE : Fp G 97 #[.agg (arr .u8 32 k), .agg (arr .u8 12 (xy n)), va, vt] (.tuple #[y4, ii e])) : Fp G 55 #[.bool true, CV true k n, va, vt] (.tuple #[CZ, y4, ii e]) := by
 have hok : okC true k n = true := rfl
 refine Qf3 Tryz.func55 ?_
 refine (g4)<|(Qh 0) fun r1=>(QH 1) fun r2=>(g8)<|Qs<|(gc) ?_
 refine (Ca (vG true k n)) ?_
 refine (Ai (show (if okC true k n = true then 0 else 9) = 0 by rw [hok]; rfl))<|(jr)<|(gn)<|(gs)<|(jj)<|(Q0)<|(gn)<|(gs)<|(Qf 33)<|(QV 2 0) ?_
 refine wR (q := 1) rfl rfl rfl  ?_
 refine (Au (Nat.mod_eq_of_lt (show n + 1 < 18446744073709551616 by omega)))<|(Qc)<|(gw)<|(gd)<|(gd)<|(ge)<|(gu)<|(Qg)<|(Qf 1)<|(Qv 1 0)<|(Qf 33)<|(QV 2 0) ?_
 refine (Ca (z09 n (by omega)))<|(gb) ?_
 refine (Ca hE)<|(gi)<|(j3)<|(QN)<|(Qat)<|(gu)<|(g4) ?_
 refine zC (cells 34 [pV (.bool false), pI .u8 32 (fun _ => 0), pV (.int .u64 0)]) (Ub 33 rfl) (Uu 33 rfl) vL rfl (by kernel_rfl) rfl ?_
 refine (Qm)<|(QW 1)<|(gy) ?_
 exact ⟨_, _, _, rfl, yb 1, yt, yt⟩
theorem z2T (k : NN) (n : Nat) (va vt : Value) (hn : n < 18446744073709551615) (out : LN) (hm : out.length ≤ maxLen) (hE : Fq G [] 97 #[.agg (arr .u8 32 k), .agg (arr .u8 12 (xy n)), va, vt] (R2 5 out)) : Fq G [] 55 #[.bool true, CV true k n, va, vt] (fun v l1 nw => l1 = [] ∧ ∃ v', v = .tuple #[CV true k (n + 1), v', ii 0] ∧ OwnS 5 1 v' out.length (out.map by8) nw) := by
 have hok : okC true k n = true := rfl
 refine QfO Tryz.func55 ?_
 refine (g4)<|(Qh 0) fun r1=>(QH 1) fun r2=>(g8)<|Qs<|(gc) ?_
 refine (Ca (vG true k n)) ?_
 refine (Ai (show (if okC true k n = true then 0 else 9) = 0 by rw [hok]; rfl))<|(jr)<|(gn)<|(gs)<|(jj)<|(Q0)<|(gn)<|(gs)<|(Qf 33)<|(QV 2 0) ?_
 refine wR (q := 1) rfl rfl rfl  ?_
 refine (Au (Nat.mod_eq_of_lt (show n + 1 < 18446744073709551616 by omega)))<|(Qc)<|(gw)<|(gd)<|(gd)<|(ge)<|(gu)<|(Qq ⟨[], 4, [], none, none⟩)<|(Qf 1)<|(Qv 1 0)<|(Qf 33)<|(QV 2 0) ?_
 refine (Ca (z09 n (by omega)))<|(gb) ?_
 refine zI 2 (fun v => .tuple #[v, ii 0]) rfl rfl (Un 97) za hE hm (by rw [List.length_map, Nat.mul_one]) rfl rfl fun v5_1 oz5_1 ho5_1 => ?_
 refine (gi)<|(j3)<|(QN) ?_
 refine z6 (congrArg Value.bool (decide_eq_false (fun h => h rfl))) ?_
 refine (gn)<|(g4)<|(Qf 1)<|(Qv 1 0)<|(Qf 33)<|(QV 2 0) ?_
 refine wR (q := 1) rfl rfl rfl  ?_
 refine (Au (Nat.mod_eq_of_lt (show n + 1 < 18446744073709551616 by omega))) ?_
 refine zC (cells 34 [pV (.bool true), pI .u8 32 k, pV (u (n + 1))]) (Ub 33 rfl) (Uu 33 rfl) vL rfl (by kernel_rfl) rfl ?_
 refine (Qm)<|(QW 1)<|(gy) ?_
 exact ⟨_, _, _, _, _, 2, rfl, yb 1, yt, yt, ho5_1, rfl⟩
theorem z7J (r i : Nat) (hr : r < 10) (hi : i < 16) : Fp G 156 #[ii r, ii i] (ii (sig r i)) := by
 obtain ⟨o1, o2, o3, o4⟩ := zhQ (16 * r + i) (by omega)
 obtain ⟨c, hc⟩ : ∃ c, c = z3E.getD (16 * r + i) 0 := ⟨_, rfl⟩
 rw [← hc] at o1 o2 o3 o4
 refine Qf1 Tryz.func156 ?_
 refine (gd)<|(g6)<|(Q7 16)<|(Qm)<|(Q3) ?_
 refine Zm (l := [48, 49, 50, 51, 52, 53, 54, 55, 56, 57, 97, 98, 99, 100, 101, 102, 101, 97, 52, 56, 57, 102, 100, 54, 49, 99, 48, 50, 98, 55, 53, 51, 98, 56, 99, 48, 53, 50, 102, 100, 97, 101, 51, 54, 55, 49, 57, 52, 55, 57, 51, 49, 100, 99, 98, 101, 50, 54, 53, 97, 52, 48, 102, 56, 57, 48, 53, 55, 50, 52, 97, 102, 101, 49, 98, 99, 54, 56, 51, 100, 50, 99, 54, 97, 48, 98, 56, 51, 52, 100, 55, 53, 102, 101, 49, 57, 99, 53, 49, 102, 101, 100, 52, 97, 48, 55, 54, 51, 57, 50, 56, 98, 100, 98, 55, 101, 99, 49, 51, 57, 53, 48, 102, 52, 56, 54, 50, 97, 54, 102, 101, 57, 98, 51, 48, 56, 99, 50, 100, 55, 49, 52, 97, 53, 97, 50, 56, 52, 55, 54, 49, 53, 102, 98, 57, 101, 51, 99, 100, 48]) (Uu 9) rfl rfl o1 o2 rfl ?_
 refine (g3)<|(ge)<|(QE)<|Qn ?_
 refine (Qcd) (fun hc0=>?_) fun hc0=>?_
 ·refine Qs<|Qp<|(Qm) ?_
  refine z3n (q := 97) rfl rfl rfl (by omega) ?_
  refine z6 (congrArg by8 (show (c + 256 - 97) % 256 = c - 97 by omega)) ?_
  refine (Qci)<|(Q2 10) ?_
  refine (Ai (o3 (by omega)))<|(gt) ?_
  exact ⟨_, rfl, yt⟩
 ·refine Qk<|Qs<|Qp<|(Qm) ?_
  refine z3n (q := 48) rfl rfl rfl (by omega) ?_
  refine z6 (congrArg by8 (show (c + 256 - 48) % 256 = c - 48 by have := o4 (by omega); omega)) ?_
  refine (Qci) ?_
  refine (Ai (o4 (by omega)).2)<|(gt) ?_
  exact ⟨_, rfl, yt⟩
theorem VL (rb r i : Nat) (b : LN) (hb : By b) (hl : b.length = 64) (hr : r < 10) (hi : i < 16) : Fp [⟨rb, #[sv b], 9⟩] 155 #[ii r, ii i, ptr rb] (uw (wrd b (sig r i))) := by
 have hsg := wF r i
 refine Qf1 Tryz.func155 ?_
 refine (gd)<|(g6)<|(Qm) ?_
 refine (Ca (z7J r i hr hi))<|(j9) ?_
 refine yo (i := 0) (Uu 9) rfl rfl rfl rfl rfl ?_
 refine (Qm)<|(Q7 4)<|(Qm)<|(Q7 4)<|(Q2 4) ?_
 refine zz (4 * sig r i) (4 * sig r i + 4) (Uu 9) rfl rfl rfl ⟨_, rfl⟩ ⟨_, rfl⟩ (by omega) (by omega) rfl ?_
 refine z6 (congrArg (fun z => sv ((b.drop (4 * sig r i)).take z)) (show 4 * sig r i + 4 - 4 * sig r i = 4 by omega)) ?_
 refine (Ca (xJ _ (z4w b (sig r i)) (z8W hb (sig r i)))) ?_
 refine zai (Uu 31) (Uu 109) rfl rfl rfl (zfL hb (sig r i)) ?_
 refine (gt) ?_
 exact ⟨_, rfl, yt⟩
theorem zda (p : Nat) (hp : p ≤ 1) (f : NN) : Fp G 158 #[.agg (arr .u32 16 f), ii p] (.agg (arr .u32 16 (shp p f))) := by
 refine Qf1 Tryz.func158 ?_
 refine (g4)<|(Qh 0) fun r1=>(QH 1) fun r2=>(gl)<|(QH 2) fun r3=>Qn<|(jg) ?_
 refine QzK [(1, _), (2, _), (4, _), (5, _)] [(0, _), (1, _)] (fun kk E m => ∃ (k : Nat) (s : Nat → Nat), kk = 4 - k ∧ E = [(8, ii k)] ∧ m = [(2, some ⟨r3, arr .u32 16 s, 199⟩)] ∧ (k ≤ 4) ∧ (∀ t, t < 4 * k → s t = shp p f t)) ⟨0, fun _ => 0, rfl, rfl, rfl, by omega, fun t ht => absurd ht (Nat.not_lt_zero t)⟩ ⟨rfl, rfl, rfl, rfl, rfl, trivial⟩ ⟨rfl, rfl, rfl, trivial⟩ ?_
 rintro kk E m ⟨k, s, rfl, rfl, rfl, hf0_0, hf0_1⟩
 simp only [zo, zu]
 refine (gq) ?_
 refine (Qcd) (fun hc0=>?_) fun hc0=>?_
 ·have hc0 : k < 4 := by omega
  refine (jq)<|(go)<|Qn<|Qb ?_
  refine QzK [(1, _), (2, _), (4, _), (5, _), (6, _), (8, _)] [(0, _), (1, _)] (fun kk E m => ∃ (j : Nat) (s2 : Nat → Nat), kk = 4 - j ∧ E = [(11, ii j)] ∧ m = [(2, some ⟨r3, arr .u32 16 s2, 199⟩)] ∧ (j ≤ 4) ∧ (∀ t, t < 4 * k + j → s2 t = shp p f t)) ⟨0, s, rfl, rfl, rfl, by omega, hf0_1⟩ ⟨rfl, rfl, rfl, rfl, rfl, rfl, rfl, trivial⟩ ⟨rfl, rfl, rfl, trivial⟩ ?_
  rintro kk E m ⟨j, s2, rfl, rfl, rfl, hf1_0, hf1_1⟩
  simp only [zo, zu]
  refine (gq) ?_
  refine (Qcd) (fun hc1=>?_) fun hc1=>?_
  ·have hc1 : j < 4 := by omega
   refine (jq)<|(g3)<|(Qg)<|(gb)<|(gb)<|(Q2 4)<|(gb) ?_
   have hpk : p * k < 4 := by rcases (by omega : p = 0 ∨ p = 1) with rfl | rfl <;> omega
   refine VJ rfl rfl rfl (by omega) ?_
   refine (Q3)<|(Q4 4)<|(QB (4 * k))<|(QB (4 * k + (j + 4 + p * k) % 4))<|(Q1 0)<|(QB (4 * k))<|(QB (4 * k + j))<|(Qu 2)<|(jc) ?_
   refine QzL ⟨j + 1, upd s2 (4 * k + j) _, rfl, rfl, rfl, by omega, z8j (shp p) f s2 (zkJ p f (by omega)) hf1_1⟩ ⟨rfl, rfl, rfl, rfl, rfl, rfl, rfl, trivial⟩ ⟨rfl, rfl, rfl, trivial⟩ ?_
   omega
  ·have hz1 : j = 4 := by omega
   subst hz1
   refine Qe<|(gk) ?_
   refine QzL ⟨k + 1, s2, rfl, rfl, rfl, by omega, by rw [show 4 * (k + 1) = 4 * k + 4 by omega]; exact hf1_1⟩ ⟨rfl, rfl, rfl, rfl, rfl, trivial⟩ ⟨rfl, rfl, rfl, trivial⟩ ?_
   omega
 ·have hz0 : k = 4 := by omega
  subst hz0
  refine (jn)<|(Qd 2)<|(ja)<|Qr ?_
  rw [← zg hf0_1]
  exact ⟨_, rfl, ya 1⟩
theorem zeq (p : Nat) (hp : p ≤ 1) (f : NN) : Fp G 158 #[.agg (arr .u32 16 f), .int .i64 (-(p : Int))] (.agg (arr .u32 16 (shn p f))) := by
 refine Qf1 Tryz.func158 ?_
 refine (g4)<|(Qh 0) fun r1=>(QH 1) fun r2=>(gl)<|(QH 2) fun r3=>Qn<|(jg) ?_
 refine QzK [(1, _), (2, _), (4, _), (5, _)] [(0, _), (1, _)] (fun kk E m => ∃ (k : Nat) (s : Nat → Nat), kk = 4 - k ∧ E = [(8, ii k)] ∧ m = [(2, some ⟨r3, arr .u32 16 s, 199⟩)] ∧ (k ≤ 4) ∧ (∀ t, t < 4 * k → s t = shn p f t)) ⟨0, fun _ => 0, rfl, rfl, rfl, by omega, fun t ht => absurd ht (Nat.not_lt_zero t)⟩ ⟨rfl, rfl, rfl, rfl, rfl, trivial⟩ ⟨rfl, rfl, rfl, trivial⟩ ?_
 rintro kk E m ⟨k, s, rfl, rfl, rfl, hf0_0, hf0_1⟩
 simp only [zo, zu]
 refine (gq) ?_
 refine (Qcd) (fun hc0=>?_) fun hc0=>?_
 ·have hc0 : k < 4 := by omega
  refine (jq)<|(go)<|Qn<|Qb ?_
  refine QzK [(1, _), (2, _), (4, _), (5, _), (6, _), (8, _)] [(0, _), (1, _)] (fun kk E m => ∃ (j : Nat) (s2 : Nat → Nat), kk = 4 - j ∧ E = [(11, ii j)] ∧ m = [(2, some ⟨r3, arr .u32 16 s2, 199⟩)] ∧ (j ≤ 4) ∧ (∀ t, t < 4 * k + j → s2 t = shn p f t)) ⟨0, s, rfl, rfl, rfl, by omega, hf0_1⟩ ⟨rfl, rfl, rfl, rfl, rfl, rfl, rfl, trivial⟩ ⟨rfl, rfl, rfl, trivial⟩ ?_
  rintro kk E m ⟨j, s2, rfl, rfl, rfl, hf1_0, hf1_1⟩
  simp only [zo, zu]
  refine (gq) ?_
  refine (Qcd) (fun hc1=>?_) fun hc1=>?_
  ·have hc1 : j < 4 := by omega
   refine (jq)<|(g3)<|(Qg)<|(gb)<|(gb)<|(Q2 4)<|(gb) ?_
   have hpk : p * k < 4 := by rcases (by omega : p = 0 ∨ p = 1) with rfl | rfl <;> omega
   have hpk : p * k < 4 := by rcases (by omega : p = 0 ∨ p = 1) with rfl | rfl <;> omega
   have hpz : (-(p : Int)) * ((k : Nat) : Int) = -((p * k : Nat) : Int) := by rw [Int.neg_mul, Int.natCast_mul]
   refine z9l rfl rfl rfl (by omega) (by omega) ?_
   refine z6 (congrArg (Value.int .i64) hpz) ?_
   refine z8U rfl rfl rfl (by omega) (by omega) ?_
   refine z6 (congrArg (Value.int .i64) (show ((j + 4 : Nat) : Int) + -((p * k : Nat) : Int) = ((j + 4 - p * k : Nat) : Int) by omega)) ?_
   refine (Q4 4)<|(QB (4 * k))<|(QB (4 * k + (j + 4 - p * k) % 4))<|(Q1 0)<|(QB (4 * k))<|(QB (4 * k + j))<|(Qu 2)<|(jc) ?_
   refine QzL ⟨j + 1, upd s2 (4 * k + j) _, rfl, rfl, rfl, by omega, z8j (shn p) f s2 (zkg p f (by omega)) hf1_1⟩ ⟨rfl, rfl, rfl, rfl, rfl, rfl, rfl, trivial⟩ ⟨rfl, rfl, rfl, trivial⟩ ?_
   omega
  ·have hz1 : j = 4 := by omega
   subst hz1
   refine Qe<|(gk) ?_
   refine QzL ⟨k + 1, s2, rfl, rfl, rfl, by omega, by rw [show 4 * (k + 1) = 4 * k + 4 by omega]; exact hf1_1⟩ ⟨rfl, rfl, rfl, rfl, rfl, trivial⟩ ⟨rfl, rfl, rfl, trivial⟩ ?_
   omega
 ·have hz0 : k = 4 := by omega
  subst hz0
  refine (jn)<|(Qd 2)<|(ja)<|Qr ?_
  rw [← zg hf0_1]
  exact ⟨_, rfl, ya 1⟩
theorem z1r (h : NN) (b : LN) (many : Nat) (hb : By b) (hl : b.length = 64) : Fp ((⟨1, arr .u32 8 ivf, 110⟩ : Blk) :: G) 120 #[.agg (arr .u32 8 h), sv b, ii many, .bool true] (.agg (arr .u32 8 (sqz h b many true))) := by
 refine Qf1 Tryz.func120 ?_
 refine (g4)<|(Qh 0) fun r1=>(Qh 1) fun r2=>(QH 2) fun r3=>(gl)<|(QH 3) fun r4=>Qn<|(jg) ?_
 refine QzK [(2, _), (3, _), (4, _), (5, _), (8, _), (9, _)] [(0, _), (1, _), (2, _)] (fun kk E m => ∃ (i : Nat) (s : Nat → Nat), kk = 8 - i ∧ E = [(18, ii i)] ∧ m = [(3, some ⟨r4, arr .u32 16 s, 199⟩)] ∧ (i ≤ 8) ∧ (∀ t, t < 16 → s t = if t % 8 < i then w00 h t else 0)) ⟨0, fun _ => 0, rfl, rfl, rfl, by omega, fun t _ => by rw [if_neg (by omega)]⟩ ⟨rfl, rfl, rfl, rfl, rfl, rfl, rfl, trivial⟩ ⟨rfl, rfl, rfl, rfl, trivial⟩ ?_
 rintro kk E m ⟨i, s, rfl, rfl, rfl, hf0_0, hf0_1⟩
 simp only [zo, zu]
 refine (gq) ?_
 refine (Qcd) (fun hc0=>?_) fun hc0=>?_
 ·have hc0 : i < 8 := by omega
  refine (jq)<|(g3)<|(Qq ⟨[r4], 1, [], none, none⟩)<|(Qm)<|(Q5 4)<|(Qm)<|(Q4 4)<|(Qm)<|(Q5 4) ?_
  refine zY (p := 2) rfl rfl rfl (by omega) ?_
  refine (Qm)<|(Q4 4)<|(Qm)<|(Qi) ?_
  refine y6 (i := 0) (Uu 109) rfl rfl rfl (zP (by omega)) rfl ⟨[3], rfl, rfl, trivial⟩ ?_
  refine (Qm)<|(Qi) ?_
  refine yo (i := 0) (Uu 109) rfl rfl rfl (zP (by omega)) rfl ?_
  refine (QB (4 * (i / 4)))<|(QB (i)) ?_
  refine xU (i := 3) (Uz 109) rfl rfl rfl (by omega) (.inr (by simp)) ?_
  refine (QB (4 * (2 + i / 4)))<|(QB (8 + i)) ?_
  refine xU (i := 3) (Uz 109) rfl rfl rfl (by omega) (.inr (by simp)) ?_
  refine (jc) ?_
  refine QzL ⟨i + 1, upd (upd s i _) (8 + i) _, rfl, rfl, rfl, by omega, XA (by omega) hf0_1⟩ ⟨rfl, rfl, rfl, rfl, rfl, rfl, rfl, trivial⟩ ⟨rfl, rfl, rfl, rfl, trivial⟩ ?_
  omega
 ·have hz0 : i = 8 := by omega
  subst hz0
  refine (jn)<|(QA 12 3)<|(QA 12 0)<|(jl)<|(Qcw)<|(Qxw)<|(QA 12 3)<|(QA 12 0)<|(Qu 3)<|Qn<|(ge)<|(gu)<|Qp<|(QA 12 3)<|(QA 14 2)<|(Q1 3) ?_
  refine z1J rfl rfl ?_
  refine (QA 12 3)<|(QA 14 2)<|(Qu 3)<|(gl)<|(QY)<|(g3)<|(jg) ?_
  refine QzK [(2, _), (3, _), (4, _), (5, _), (8, _), (9, _), (11, _), (18, _)] [(0, _), (1, _), (2, _)] (fun kk E m => ∃ (r : Nat), kk = 10 - r ∧ E = [(57, ii r)] ∧ m = [(3, some ⟨r4, arr .u32 16 (brs b (w0 h many true) r), 199⟩)] ∧ (r ≤ 10)) ⟨0, rfl, rfl, rfl, by omega⟩ ⟨rfl, rfl, rfl, rfl, rfl, rfl, rfl, rfl, rfl, trivial⟩ ⟨(congrArg (fun c => some (⟨r4, c, 199⟩ : Blk)) (zg (fun t ht => (zgp hf0_1 t ht).trans (congrFun (z4Y b (w0 h many true)) t)))), rfl, rfl, rfl, trivial⟩ ?_
  rintro kk E m ⟨r, rfl, rfl, rfl, hf1_0⟩
  simp only [zo, zu]
  refine (gq) ?_
  refine (Qcd) (fun hc2=>?_) fun hc2=>?_
  ·have hc2 : r < 10 := by omega
   refine (jq)<|(go)<|Qn<|Qb ?_
   refine QzK [(2, _), (3, _), (4, _), (5, _), (8, _), (9, _), (11, _), (12, _), (18, _), (57, _)] [(0, _), (1, _), (2, _)] (fun kk E m => ∃ (p : Nat), kk = 2 - p ∧ E = [(60, ii p)] ∧ m = [(3, some ⟨r4, arr .u32 16 (xN b r (brs b (w0 h many true) r) p), 199⟩)] ∧ (p ≤ 2)) ⟨0, rfl, rfl, rfl, by omega⟩ ⟨rfl, rfl, rfl, rfl, rfl, rfl, rfl, rfl, rfl, rfl, rfl, trivial⟩ ⟨(xX (z0M b r (brs b (w0 h many true) r))), rfl, rfl, rfl, trivial⟩ ?_
   rintro kk E m ⟨p, rfl, rfl, rfl, hf2_0⟩
   simp only [zo, zu]
   refine (gq) ?_
   refine (Qcd) (fun hc3=>?_) fun hc3=>?_
   ·have hc3 : p < 2 := by omega
    refine (jq)<|(j9)<|(Qd 3)<|(Qm) ?_
    refine z9 rfl (Un 158) (zda p (by omega) _) rfl rfl ?_
    refine (Qt 3)<|Qn<|(jg) ?_
    refine QzK [(2, _), (3, _), (4, _), (5, _), (8, _), (9, _), (11, _), (12, _), (13, _), (18, _), (57, _), (60, _)] [(0, _), (1, _), (2, _)] (fun kk E m => ∃ (c : Nat) (s : Nat → Nat), kk = 4 - c ∧ E = [(66, ii c)] ∧ m = [(3, some ⟨r4, arr .u32 16 s, 199⟩)] ∧ (c ≤ 4) ∧ (∀ t, t < 16 → s t = if t % 4 < c then brn (xw b r p) (yw b r p) (shp p (xN b r (brs b (w0 h many true) r) p)) t else (shp p (xN b r (brs b (w0 h many true) r) p)) t)) ⟨0, (shp p (xN b r (brs b (w0 h many true) r) p)), rfl, rfl, rfl, by omega, fun t _ => by rw [if_neg (by omega)]⟩ ⟨rfl, rfl, rfl, rfl, rfl, rfl, rfl, rfl, rfl, rfl, rfl, rfl, rfl, trivial⟩ ⟨rfl, rfl, rfl, rfl, trivial⟩ ?_
    rintro kk E m ⟨c, s, rfl, rfl, rfl, hf3_0, hf3_1⟩
    simp only [zo, zu]
    refine (gq) ?_
    refine (Qcd) (fun hc4=>?_) fun hc4=>?_
    ·have hc4 : c < 4 := by omega
     refine (jq)<|(go)<|(gb)<|(Q7 8)<|(Qm)<|(Q7 2)<|(Q3) ?_
     refine vr [⟨r2, #[sv b], 9⟩] rfl rfl (Un 155) ⟨⟨1, rfl⟩, trivial⟩ (VL r2 r (8 * p + 2 * c) b hb hl (by omega) (by omega)) rfl rfl rfl ?_
     refine (gb)<|(Qm)<|(Q7 8)<|(Qm)<|(Q7 2)<|(Q3)<|(Q2 1) ?_
     refine vr [⟨r2, #[sv b], 9⟩] rfl rfl (Un 155) ⟨⟨1, rfl⟩, trivial⟩ (VL r2 r (8 * p + 2 * c + 1) b hb hl (by omega) (by omega)) rfl rfl rfl ?_
     refine (g8)<|(gr)<|(Qm)<|(QA 0 0)<|(Qi)<|(jl)<|(QA 4 1)<|(QB (4 + c))<|(jl)<|(Qaw)<|(Qaw) ?_
     refine yY fun q1 hq1 => ?_
     refine (QA 0 0)<|(Qi)<|(Qu 3)<|(jf)<|(gb)<|(QA 12 3)<|(QB (12 + c))<|(jl)<|(QA 0 0)<|(Qi)<|(Q1 3)<|(Qxw) ?_
     refine z9 rfl (Un 159) (xZ _ _ (by decide)) rfl rfl ?_
     refine yY fun q2 hq2 => ?_
     refine (QA 12 3)<|(QB (12 + c))<|(Qu 3)<|(jf)<|(Qm)<|(QA 8 2)<|(QB (8 + c))<|(jl)<|(QA 12 3)<|(QB (12 + c))<|(Q1 3)<|(Qaw) ?_
     refine yY fun q3 hq3 => ?_
     refine (QA 8 2)<|(QB (8 + c))<|(Qu 3)<|(jf)<|(gb)<|(QA 4 1)<|(QB (4 + c))<|(jl)<|(QA 8 2)<|(QB (8 + c))<|(Q1 3)<|(Qxw) ?_
     refine z9 rfl (Un 159) (xZ _ _ (by decide)) rfl rfl ?_
     refine yY fun q4 hq4 => ?_
     refine (QA 4 1)<|(QB (4 + c))<|(Qu 3)<|(jf)<|(Qm)<|(QA 0 0)<|(Qi)<|(jl)<|(QA 4 1)<|(QB (4 + c))<|(jl)<|(Qaw)<|(Qaw) ?_
     refine yY fun q5 hq5 => ?_
     refine (QA 0 0)<|(Qi)<|(Qu 3)<|(jf)<|(gb)<|(QA 12 3)<|(QB (12 + c))<|(jl)<|(QA 0 0)<|(Qi)<|(Q1 3)<|(Qxw) ?_
     refine z9 rfl (Un 159) (xZ _ _ (by decide)) rfl rfl ?_
     refine yY fun q6 hq6 => ?_
     refine (QA 12 3)<|(QB (12 + c))<|(Qu 3)<|(jf)<|(Qm)<|(QA 8 2)<|(QB (8 + c))<|(jl)<|(QA 12 3)<|(QB (12 + c))<|(Q1 3)<|(Qaw) ?_
     refine yY fun q7 hq7 => ?_
     refine (QA 8 2)<|(QB (8 + c))<|(Qu 3)<|Qn<|(Qg)<|(gb)<|(QA 4 1)<|(QB (4 + c))<|(jl)<|(QA 8 2)<|(QB (8 + c))<|(Q1 3)<|(Qxw) ?_
     refine z9 rfl (Un 159) (xZ _ _ (by decide)) rfl rfl ?_
     refine yY fun q8 hq8 => ?_
     refine (QA 4 1)<|(QB (4 + c))<|(Qu 3)<|(jc) ?_
     refine QzL ⟨c + 1, upd (upd (upd (upd (upd (upd (upd (upd s c q1) (12 + c) q2) (8 + c) q3) (4 + c) q4) c q5) (12 + c) q6) (8 + c) q7) (4 + c) q8, rfl, rfl, rfl, by omega, XG (by omega) hf3_1 _ rfl (z9a (by omega) hq1 hq2 hq3 hq4 hq5 hq6 hq7 hq8)⟩ ⟨rfl, rfl, rfl, rfl, rfl, rfl, rfl, rfl, rfl, rfl, rfl, rfl, rfl, trivial⟩ ⟨rfl, rfl, rfl, rfl, trivial⟩ ?_
     omega
    ·have hz3 : c = 4 := by omega
     refine Qe<|Qp<|(Qd 3) ?_
     refine (Aa (fun t ht => (hf3_1 t ht).trans (if_pos (by omega))))<|(Qm) ?_
     refine z9w rfl rfl (by omega) (by omega) ?_
     refine z9 rfl (Un 158) (zeq p (by omega) _) rfl rfl ?_
     refine (Qt 3)<|(jc) ?_
     refine QzL ⟨p + 1, rfl, rfl, rfl, by omega⟩ ⟨rfl, rfl, rfl, rfl, rfl, rfl, rfl, rfl, rfl, rfl, rfl, trivial⟩ ⟨(xX (z0l b r (brs b (w0 h many true) r) p)), rfl, rfl, rfl, trivial⟩ ?_
     omega
   ·have hz2 : p = 2 := by omega
    refine Qe<|(gk) ?_
    refine QzL ⟨r + 1, rfl, rfl, rfl, by omega⟩ ⟨rfl, rfl, rfl, rfl, rfl, rfl, rfl, rfl, rfl, trivial⟩ ⟨(xX ((congrArg (xN b r (brs b (w0 h many true) r)) hz2).trans (z5o b (w0 h many true) r))), rfl, rfl, rfl, trivial⟩ ?_
    omega
  ·have hz1 : r = 10 := by omega
   refine Qe<|(jg) ?_
   refine QzK [(2, _), (3, _), (4, _), (5, _), (8, _), (9, _), (11, _), (18, _), (57, _)] [(1, _), (2, _), (3, _)] (fun kk E m => ∃ (q : Nat) (s2 : Nat → Nat), kk = 8 - q ∧ E = [(193, ii q)] ∧ m = [(0, some ⟨r1, arr .u32 8 s2, 110⟩)] ∧ (q ≤ 8) ∧ (∀ t, t < 8 → s2 t = if t < q then sqz h b many true t else h t)) ⟨0, h, rfl, rfl, rfl, by omega, fun t _ => by rw [if_neg (by omega)]⟩ ⟨rfl, rfl, rfl, rfl, rfl, rfl, rfl, rfl, rfl, rfl, trivial⟩ ⟨rfl, rfl, rfl, rfl, trivial⟩ ?_
   rintro kk E m ⟨q, s2, rfl, rfl, rfl, hf4_0, hf4_1⟩
   simp only [zo, zu]
   refine (gq) ?_
   refine (Qcd) (fun hc5=>?_) fun hc5=>?_
   ·have hc5 : q < 8 := by omega
    refine (jq)<|(g3)<|(Qg)<|(Qm)<|(gv)<|(Qm)<|(Q5 4)<|(Qm)<|(Q4 4)<|(QB (4 * (q / 4)))<|(QB (q))<|(jl)<|(Q5 4) ?_
    refine zY (p := 2) rfl rfl rfl (by omega) ?_
    refine (Qm)<|(Q4 4)<|(QB (4 * (2 + q / 4)))<|(QB (8 + q))<|(Q1 3)<|(Qxw)<|(Qxw)<|(ji)<|(jc) ?_
    refine QzL ⟨q + 1, upd s2 q _, rfl, rfl, rfl, by omega, z1b (by omega) (congrArg (brs b (w0 h many true)) hz1) hf4_1⟩ ⟨rfl, rfl, rfl, rfl, rfl, rfl, rfl, rfl, rfl, rfl, trivial⟩ ⟨rfl, rfl, rfl, rfl, trivial⟩ ?_
    omega
   ·have hz4 : q = 8 := by omega
    subst hz4
    refine (jn)<|(Qd 0)<|(Qt 2)<|Qn<|Qr ?_
    rw [← z8d hf4_1]
    exact ⟨_, rfl, ya 2⟩
theorem z0G (h : NN) (b : LN) (many : Nat) (hb : By b) (hl : b.length = 64) : Fp ((⟨1, arr .u32 8 ivf, 110⟩ : Blk) :: G) 120 #[.agg (arr .u32 8 h), sv b, ii many, .bool false] (.agg (arr .u32 8 (sqz h b many false))) := by
 refine Qf1 Tryz.func120 ?_
 refine (g4)<|(Qh 0) fun r1=>(Qh 1) fun r2=>(QH 2) fun r3=>(gl)<|(QH 3) fun r4=>Qn<|(jg) ?_
 refine QzK [(2, _), (3, _), (4, _), (5, _), (8, _), (9, _)] [(0, _), (1, _), (2, _)] (fun kk E m => ∃ (i : Nat) (s : Nat → Nat), kk = 8 - i ∧ E = [(18, ii i)] ∧ m = [(3, some ⟨r4, arr .u32 16 s, 199⟩)] ∧ (i ≤ 8) ∧ (∀ t, t < 16 → s t = if t % 8 < i then w00 h t else 0)) ⟨0, fun _ => 0, rfl, rfl, rfl, by omega, fun t _ => by rw [if_neg (by omega)]⟩ ⟨rfl, rfl, rfl, rfl, rfl, rfl, rfl, trivial⟩ ⟨rfl, rfl, rfl, rfl, trivial⟩ ?_
 rintro kk E m ⟨i, s, rfl, rfl, rfl, hf0_0, hf0_1⟩
 simp only [zo, zu]
 refine (gq) ?_
 refine (Qcd) (fun hc0=>?_) fun hc0=>?_
 ·have hc0 : i < 8 := by omega
  refine (jq)<|(g3)<|(Qq ⟨[r4], 1, [], none, none⟩)<|(Qm)<|(Q5 4)<|(Qm)<|(Q4 4)<|(Qm)<|(Q5 4) ?_
  refine zY (p := 2) rfl rfl rfl (by omega) ?_
  refine (Qm)<|(Q4 4)<|(Qm)<|(Qi) ?_
  refine y6 (i := 0) (Uu 109) rfl rfl rfl (zP (by omega)) rfl ⟨[3], rfl, rfl, trivial⟩ ?_
  refine (Qm)<|(Qi) ?_
  refine yo (i := 0) (Uu 109) rfl rfl rfl (zP (by omega)) rfl ?_
  refine (QB (4 * (i / 4)))<|(QB (i)) ?_
  refine xU (i := 3) (Uz 109) rfl rfl rfl (by omega) (.inr (by simp)) ?_
  refine (QB (4 * (2 + i / 4)))<|(QB (8 + i)) ?_
  refine xU (i := 3) (Uz 109) rfl rfl rfl (by omega) (.inr (by simp)) ?_
  refine (jc) ?_
  refine QzL ⟨i + 1, upd (upd s i _) (8 + i) _, rfl, rfl, rfl, by omega, XA (by omega) hf0_1⟩ ⟨rfl, rfl, rfl, rfl, rfl, rfl, rfl, trivial⟩ ⟨rfl, rfl, rfl, rfl, trivial⟩ ?_
  omega
 ·have hz0 : i = 8 := by omega
  subst hz0
  refine (jn)<|(QA 12 3)<|(QA 12 0)<|(jl)<|(Qcw)<|(Qxw)<|(QA 12 3)<|(QA 12 0)<|(Qu 3)<|Qn<|(ge)<|(gn)<|(g4)<|(QY)<|(g3)<|(jg) ?_
  refine QzK [(2, _), (3, _), (4, _), (5, _), (8, _), (9, _), (11, _), (18, _)] [(0, _), (1, _), (2, _)] (fun kk E m => ∃ (r : Nat), kk = 10 - r ∧ E = [(57, ii r)] ∧ m = [(3, some ⟨r4, arr .u32 16 (brs b (w0 h many false) r), 199⟩)] ∧ (r ≤ 10)) ⟨0, rfl, rfl, rfl, by omega⟩ ⟨rfl, rfl, rfl, rfl, rfl, rfl, rfl, rfl, rfl, trivial⟩ ⟨(congrArg (fun c => some (⟨r4, c, 199⟩ : Blk)) (zg (fun t ht => (z4b hf0_1 t ht).trans (congrFun (z4Y b (w0 h many false)) t)))), rfl, rfl, rfl, trivial⟩ ?_
  rintro kk E m ⟨r, rfl, rfl, rfl, hf1_0⟩
  simp only [zo, zu]
  refine (gq) ?_
  refine (Qcd) (fun hc2=>?_) fun hc2=>?_
  ·have hc2 : r < 10 := by omega
   refine (jq)<|(go)<|Qn<|Qb ?_
   refine QzK [(2, _), (3, _), (4, _), (5, _), (8, _), (9, _), (11, _), (12, _), (18, _), (57, _)] [(0, _), (1, _), (2, _)] (fun kk E m => ∃ (p : Nat), kk = 2 - p ∧ E = [(60, ii p)] ∧ m = [(3, some ⟨r4, arr .u32 16 (xN b r (brs b (w0 h many false) r) p), 199⟩)] ∧ (p ≤ 2)) ⟨0, rfl, rfl, rfl, by omega⟩ ⟨rfl, rfl, rfl, rfl, rfl, rfl, rfl, rfl, rfl, rfl, rfl, trivial⟩ ⟨(xX (z0M b r (brs b (w0 h many false) r))), rfl, rfl, rfl, trivial⟩ ?_
   rintro kk E m ⟨p, rfl, rfl, rfl, hf2_0⟩
   simp only [zo, zu]
   refine (gq) ?_
   refine (Qcd) (fun hc3=>?_) fun hc3=>?_
   ·have hc3 : p < 2 := by omega
    refine (jq)<|(j9)<|(Qd 3)<|(Qm) ?_
    refine z9 rfl (Un 158) (zda p (by omega) _) rfl rfl ?_
    refine (Qt 3)<|Qn<|(jg) ?_
    refine QzK [(2, _), (3, _), (4, _), (5, _), (8, _), (9, _), (11, _), (12, _), (13, _), (18, _), (57, _), (60, _)] [(0, _), (1, _), (2, _)] (fun kk E m => ∃ (c : Nat) (s : Nat → Nat), kk = 4 - c ∧ E = [(66, ii c)] ∧ m = [(3, some ⟨r4, arr .u32 16 s, 199⟩)] ∧ (c ≤ 4) ∧ (∀ t, t < 16 → s t = if t % 4 < c then brn (xw b r p) (yw b r p) (shp p (xN b r (brs b (w0 h many false) r) p)) t else (shp p (xN b r (brs b (w0 h many false) r) p)) t)) ⟨0, (shp p (xN b r (brs b (w0 h many false) r) p)), rfl, rfl, rfl, by omega, fun t _ => by rw [if_neg (by omega)]⟩ ⟨rfl, rfl, rfl, rfl, rfl, rfl, rfl, rfl, rfl, rfl, rfl, rfl, rfl, trivial⟩ ⟨rfl, rfl, rfl, rfl, trivial⟩ ?_
    rintro kk E m ⟨c, s, rfl, rfl, rfl, hf3_0, hf3_1⟩
    simp only [zo, zu]
    refine (gq) ?_
    refine (Qcd) (fun hc4=>?_) fun hc4=>?_
    ·have hc4 : c < 4 := by omega
     refine (jq)<|(go)<|(gb)<|(Q7 8)<|(Qm)<|(Q7 2)<|(Q3) ?_
     refine vr [⟨r2, #[sv b], 9⟩] rfl rfl (Un 155) ⟨⟨1, rfl⟩, trivial⟩ (VL r2 r (8 * p + 2 * c) b hb hl (by omega) (by omega)) rfl rfl rfl ?_
     refine (gb)<|(Qm)<|(Q7 8)<|(Qm)<|(Q7 2)<|(Q3)<|(Q2 1) ?_
     refine vr [⟨r2, #[sv b], 9⟩] rfl rfl (Un 155) ⟨⟨1, rfl⟩, trivial⟩ (VL r2 r (8 * p + 2 * c + 1) b hb hl (by omega) (by omega)) rfl rfl rfl ?_
     refine (g8)<|(gr)<|(Qm)<|(QA 0 0)<|(Qi)<|(jl)<|(QA 4 1)<|(QB (4 + c))<|(jl)<|(Qaw)<|(Qaw) ?_
     refine yY fun q1 hq1 => ?_
     refine (QA 0 0)<|(Qi)<|(Qu 3)<|(jf)<|(gb)<|(QA 12 3)<|(QB (12 + c))<|(jl)<|(QA 0 0)<|(Qi)<|(Q1 3)<|(Qxw) ?_
     refine z9 rfl (Un 159) (xZ _ _ (by decide)) rfl rfl ?_
     refine yY fun q2 hq2 => ?_
     refine (QA 12 3)<|(QB (12 + c))<|(Qu 3)<|(jf)<|(Qm)<|(QA 8 2)<|(QB (8 + c))<|(jl)<|(QA 12 3)<|(QB (12 + c))<|(Q1 3)<|(Qaw) ?_
     refine yY fun q3 hq3 => ?_
     refine (QA 8 2)<|(QB (8 + c))<|(Qu 3)<|(jf)<|(gb)<|(QA 4 1)<|(QB (4 + c))<|(jl)<|(QA 8 2)<|(QB (8 + c))<|(Q1 3)<|(Qxw) ?_
     refine z9 rfl (Un 159) (xZ _ _ (by decide)) rfl rfl ?_
     refine yY fun q4 hq4 => ?_
     refine (QA 4 1)<|(QB (4 + c))<|(Qu 3)<|(jf)<|(Qm)<|(QA 0 0)<|(Qi)<|(jl)<|(QA 4 1)<|(QB (4 + c))<|(jl)<|(Qaw)<|(Qaw) ?_
     refine yY fun q5 hq5 => ?_
     refine (QA 0 0)<|(Qi)<|(Qu 3)<|(jf)<|(gb)<|(QA 12 3)<|(QB (12 + c))<|(jl)<|(QA 0 0)<|(Qi)<|(Q1 3)<|(Qxw) ?_
     refine z9 rfl (Un 159) (xZ _ _ (by decide)) rfl rfl ?_
     refine yY fun q6 hq6 => ?_
     refine (QA 12 3)<|(QB (12 + c))<|(Qu 3)<|(jf)<|(Qm)<|(QA 8 2)<|(QB (8 + c))<|(jl)<|(QA 12 3)<|(QB (12 + c))<|(Q1 3)<|(Qaw) ?_
     refine yY fun q7 hq7 => ?_
     refine (QA 8 2)<|(QB (8 + c))<|(Qu 3)<|Qn<|(Qg)<|(gb)<|(QA 4 1)<|(QB (4 + c))<|(jl)<|(QA 8 2)<|(QB (8 + c))<|(Q1 3)<|(Qxw) ?_
     refine z9 rfl (Un 159) (xZ _ _ (by decide)) rfl rfl ?_
     refine yY fun q8 hq8 => ?_
     refine (QA 4 1)<|(QB (4 + c))<|(Qu 3)<|(jc) ?_
     refine QzL ⟨c + 1, upd (upd (upd (upd (upd (upd (upd (upd s c q1) (12 + c) q2) (8 + c) q3) (4 + c) q4) c q5) (12 + c) q6) (8 + c) q7) (4 + c) q8, rfl, rfl, rfl, by omega, XG (by omega) hf3_1 _ rfl (z9a (by omega) hq1 hq2 hq3 hq4 hq5 hq6 hq7 hq8)⟩ ⟨rfl, rfl, rfl, rfl, rfl, rfl, rfl, rfl, rfl, rfl, rfl, rfl, rfl, trivial⟩ ⟨rfl, rfl, rfl, rfl, trivial⟩ ?_
     omega
    ·have hz3 : c = 4 := by omega
     refine Qe<|Qp<|(Qd 3) ?_
     refine (Aa (fun t ht => (hf3_1 t ht).trans (if_pos (by omega))))<|(Qm) ?_
     refine z9w rfl rfl (by omega) (by omega) ?_
     refine z9 rfl (Un 158) (zeq p (by omega) _) rfl rfl ?_
     refine (Qt 3)<|(jc) ?_
     refine QzL ⟨p + 1, rfl, rfl, rfl, by omega⟩ ⟨rfl, rfl, rfl, rfl, rfl, rfl, rfl, rfl, rfl, rfl, rfl, trivial⟩ ⟨(xX (z0l b r (brs b (w0 h many false) r) p)), rfl, rfl, rfl, trivial⟩ ?_
     omega
   ·have hz2 : p = 2 := by omega
    refine Qe<|(gk) ?_
    refine QzL ⟨r + 1, rfl, rfl, rfl, by omega⟩ ⟨rfl, rfl, rfl, rfl, rfl, rfl, rfl, rfl, rfl, trivial⟩ ⟨(xX ((congrArg (xN b r (brs b (w0 h many false) r)) hz2).trans (z5o b (w0 h many false) r))), rfl, rfl, rfl, trivial⟩ ?_
    omega
  ·have hz1 : r = 10 := by omega
   refine Qe<|(jg) ?_
   refine QzK [(2, _), (3, _), (4, _), (5, _), (8, _), (9, _), (11, _), (18, _), (57, _)] [(1, _), (2, _), (3, _)] (fun kk E m => ∃ (q : Nat) (s2 : Nat → Nat), kk = 8 - q ∧ E = [(193, ii q)] ∧ m = [(0, some ⟨r1, arr .u32 8 s2, 110⟩)] ∧ (q ≤ 8) ∧ (∀ t, t < 8 → s2 t = if t < q then sqz h b many false t else h t)) ⟨0, h, rfl, rfl, rfl, by omega, fun t _ => by rw [if_neg (by omega)]⟩ ⟨rfl, rfl, rfl, rfl, rfl, rfl, rfl, rfl, rfl, rfl, trivial⟩ ⟨rfl, rfl, rfl, rfl, trivial⟩ ?_
   rintro kk E m ⟨q, s2, rfl, rfl, rfl, hf4_0, hf4_1⟩
   simp only [zo, zu]
   refine (gq) ?_
   refine (Qcd) (fun hc5=>?_) fun hc5=>?_
   ·have hc5 : q < 8 := by omega
    refine (jq)<|(g3)<|(Qg)<|(Qm)<|(gv)<|(Qm)<|(Q5 4)<|(Qm)<|(Q4 4)<|(QB (4 * (q / 4)))<|(QB (q))<|(jl)<|(Q5 4) ?_
    refine zY (p := 2) rfl rfl rfl (by omega) ?_
    refine (Qm)<|(Q4 4)<|(QB (4 * (2 + q / 4)))<|(QB (8 + q))<|(Q1 3)<|(Qxw)<|(Qxw)<|(ji)<|(jc) ?_
    refine QzL ⟨q + 1, upd s2 q _, rfl, rfl, rfl, by omega, z1b (by omega) (congrArg (brs b (w0 h many false)) hz1) hf4_1⟩ ⟨rfl, rfl, rfl, rfl, rfl, rfl, rfl, rfl, rfl, rfl, trivial⟩ ⟨rfl, rfl, rfl, rfl, trivial⟩ ?_
    omega
   ·have hz4 : q = 8 := by omega
    subst hz4
    refine (jn)<|(Qd 0)<|(Qt 2)<|Qn<|Qr ?_
    rw [← z8d hf4_1]
    exact ⟨_, rfl, ya 2⟩
theorem z2l : Fp ((⟨1, arr .u32 8 ivf, 110⟩ : Blk) :: G) 78 #[] (.agg (cells 74 [pI .u32 8 z1s, pI .u8 64 (fun _ => 0), pV (.int .i64 0), pV (.int .i64 0)])) := by
 refine Qf1 Tryz.func78 ?_
 refine (g4)<|(QH 0) fun r1=>(gl) ?_
 refine z4W (i := 0) (Uu 110) rfl (Uz 110) rfl rfl (zd _ _ _) rfl ?_
 refine zC (cells 74 [pI .u32 8 ivf, pI .u8 64 (fun _ => 0), pV (.int .i64 0), pV (.int .i64 0)]) (Ub 113 rfl) (Uu 113 rfl) z3B rfl (by kernel_rfl) rfl ?_
 refine (QH 1) fun r2=>(QW 1)<|(gl)<|(Qf 0)<|(Qj 0)<|(QI 0 0 1) ?_
 refine z46 (q := 16842784) rfl rfl rfl  ?_
 refine (Qf 0)<|(Qj 0) ?_
 refine z9m (i := 1) 0 (0) (Uz 109) rfl rfl rfl rfl rfl (by decide) (by decide) (.inl rfl) ?_
 refine (gl)<|(QD 1) ?_
 refine (Av (Value.agg (cells 74 [pI .u32 8 z1s, pI .u8 64 (fun _ => 0), pV (.int .i64 0), pV (.int .i64 0)])))<|(QW 0)<|Qn<|Qr ?_
 exact ⟨_, rfl, yb 0⟩
theorem X6 (h d : NN) (n ln : Nat) (hn : n ≤ 64) (hl : ln ≤ 1073741824) : Fp G 119 #[.agg (cells 74 [pI .u32 8 h, pI .u8 64 d, pV (.int .i64 n), pV (.int .i64 ln)])] (.bool (!okB n ln d)) := by
 refine Qf1 Tryz.func119 ?_
 refine (g4)<|(Qh 0) fun r1=>(g3)<|(gs)<|(j5)<|(Ql)<|(Qaf)<|(g7)<|(Qf 72)<|(Qy)<|(QV 2 0)<|(Qy)<|(QG)<|(Qaf)<|(QF)<|(g7)<|(Qf 73)<|(Qy)<|(QV 3 0)<|(Qy)<|(Ql)<|(Qaf)<|(QF)<|(g7)<|(Qf 73)<|(Qy)<|(QV 3 0)<|(Qy)<|(QG)<|(Qaf)<|(QF)<|(gn)<|(g4)<|(Qf 73)<|(QV 3 0)<|(Q4 64)<|(g3)<|Qs<|Qs ?_
 rcases (by omega : ln % 64 ≠ 0 ∨ (ln % 64 = 0 ∧ 0 < ln) ∨ (ln % 64 = 0 ∧ ¬ 0 < ln)) with hm | ⟨hm, hp⟩ | ⟨hm, hp⟩
 ·skip
  refine (j0)<|(Qc)<|(Qaf)<|(Qm)<|(gx)<|(QF)<|(gh) ?_
  have hkx : nbl ln = ln % 64 := if_neg (by omega)
  refine Qk<|(gs)<|(Qf 8)<|(Qv 1 0)<|(Qm)<|Qn<|Qb ?_
  refine QzK [(1, _), (3, _), (35, _)] [(0, _)] (fun kk E m => ∃ (i : Nat), kk = 64 - i ∧ E = [(36, ii i)] ∧ m = [] ∧ (i ≤ 64) ∧ (∀ t, t < i → n ≤ t → d t = 0)) ⟨0, rfl, rfl, rfl, by omega, fun t ht => absurd ht (Nat.not_lt_zero t)⟩ ⟨rfl, rfl, rfl, rfl, trivial⟩ ⟨rfl, trivial⟩ ?_
  rintro kk E m ⟨i, rfl, rfl, rfl, hf0_0, hf0_1⟩
  simp only [zo, zu]
  refine (gq) ?_
  refine (Qcd) (fun hc2=>?_) fun hc2=>?_
  ·have hc2 : i < 64 := by omega
   refine (jq)<|(QX)<|(g8)<|Qs ?_
   rcases (by omega : ¬ n ≤ i ∨ (n ≤ i ∧ d i = 0) ∨ (n ≤ i ∧ d i ≠ 0)) with hz | ⟨hge, hz⟩ | ⟨hge, hne⟩
   ·skip
    refine (j0)<|(j5)<|(QE)<|(Qaf)<|(Qm)<|(g5)<|(QF)<|(gn)<|(gk) ?_
    refine QzL ⟨i + 1, rfl, rfl, rfl, by omega, fun t ht hnt => by rcases (by omega : t < i ∨ t = i) with h | rfl; exact hf0_1 t h hnt; first | exact hz | exact absurd hnt (by omega)⟩ ⟨rfl, rfl, rfl, rfl, trivial⟩ ⟨rfl, trivial⟩ ?_
    omega
   ·skip
    refine (j0)<|(j5)<|(QE)<|(Qat)<|(gm)<|(QN)<|(Qaf)<|(QT)<|(gn)<|(gk) ?_
    refine QzL ⟨i + 1, rfl, rfl, rfl, by omega, fun t ht hnt => by rcases (by omega : t < i ∨ t = i) with h | rfl; exact hf0_1 t h hnt; first | exact hz | exact absurd hnt (by omega)⟩ ⟨rfl, rfl, rfl, rfl, trivial⟩ ⟨rfl, trivial⟩ ?_
    omega
   ·skip
    refine (j0)<|(j5)<|(QE)<|(Qat)<|(gm)<|(QN)<|(Qat)<|(QT)<|(gu)<|(j4) ?_
    first | rw [YG (i := i) (by omega) hge hne] | rw [YK hf0_1 hkx]
    exact ⟨_, rfl, yt⟩
  ·have hz0 : i = 64 := by omega
   subst hz0
   refine (jn)<|(j5)<|(Qm)<|(QN)<|(gt) ?_
   first | rw [YG (i := i) (by omega) hge hne] | rw [YK hf0_1 hkx]
   exact ⟨_, rfl, yt⟩
 ·skip
  refine (j0)<|(Qc)<|(Qat)<|(g7)<|(Qf 73)<|(Qy)<|(QV 3 0)<|(Qy)<|(QG)<|(Qat)<|(QT)<|(gu) ?_
  have hkx : nbl ln = 64 := if_pos ⟨hm, hp⟩
  refine Qp<|(g3)<|(gs)<|(Qf 8)<|(Qv 1 0)<|(Qm)<|Qn<|Qb ?_
  refine QzK [(1, _), (3, _), (35, _)] [(0, _)] (fun kk E m => ∃ (i : Nat), kk = 64 - i ∧ E = [(36, ii i)] ∧ m = [] ∧ (i ≤ 64) ∧ (∀ t, t < i → n ≤ t → d t = 0)) ⟨0, rfl, rfl, rfl, by omega, fun t ht => absurd ht (Nat.not_lt_zero t)⟩ ⟨rfl, rfl, rfl, rfl, trivial⟩ ⟨rfl, trivial⟩ ?_
  rintro kk E m ⟨i, rfl, rfl, rfl, hf0_0, hf0_1⟩
  simp only [zo, zu]
  refine (gq) ?_
  refine (Qcd) (fun hc2=>?_) fun hc2=>?_
  ·have hc2 : i < 64 := by omega
   refine (jq)<|(QX)<|(g8)<|Qs ?_
   rcases (by omega : ¬ n ≤ i ∨ (n ≤ i ∧ d i = 0) ∨ (n ≤ i ∧ d i ≠ 0)) with hz | ⟨hge, hz⟩ | ⟨hge, hne⟩
   ·skip
    refine (j0)<|(j5)<|(QE)<|(Qaf)<|(Qm)<|(g5)<|(QF)<|(gn)<|(gk) ?_
    refine QzL ⟨i + 1, rfl, rfl, rfl, by omega, fun t ht hnt => by rcases (by omega : t < i ∨ t = i) with h | rfl; exact hf0_1 t h hnt; first | exact hz | exact absurd hnt (by omega)⟩ ⟨rfl, rfl, rfl, rfl, trivial⟩ ⟨rfl, trivial⟩ ?_
    omega
   ·skip
    refine (j0)<|(j5)<|(QE)<|(Qat)<|(gm)<|(QN)<|(Qaf)<|(QT)<|(gn)<|(gk) ?_
    refine QzL ⟨i + 1, rfl, rfl, rfl, by omega, fun t ht hnt => by rcases (by omega : t < i ∨ t = i) with h | rfl; exact hf0_1 t h hnt; first | exact hz | exact absurd hnt (by omega)⟩ ⟨rfl, rfl, rfl, rfl, trivial⟩ ⟨rfl, trivial⟩ ?_
    omega
   ·skip
    refine (j0)<|(j5)<|(QE)<|(Qat)<|(gm)<|(QN)<|(Qat)<|(QT)<|(gu)<|(j4) ?_
    first | rw [YG (i := i) (by omega) hge hne] | rw [YK hf0_1 hkx]
    exact ⟨_, rfl, yt⟩
  ·have hz0 : i = 64 := by omega
   subst hz0
   refine (jn)<|(j5)<|(Qm)<|(QN)<|(gt) ?_
   first | rw [YG (i := i) (by omega) hge hne] | rw [YK hf0_1 hkx]
   exact ⟨_, rfl, yt⟩
 ·skip
  refine (j0)<|(Qc)<|(Qat)<|(g7)<|(Qf 73)<|(Qy)<|(QV 3 0)<|(Qy)<|(QG)<|(Qaf)<|(QT)<|(gh) ?_
  have hkx : nbl ln = ln % 64 := if_neg (by omega)
  refine Qk<|(gs)<|(Qf 8)<|(Qv 1 0)<|(Qm)<|Qn<|Qb ?_
  refine QzK [(1, _), (3, _), (35, _)] [(0, _)] (fun kk E m => ∃ (i : Nat), kk = 64 - i ∧ E = [(36, ii i)] ∧ m = [] ∧ (i ≤ 64) ∧ (∀ t, t < i → n ≤ t → d t = 0)) ⟨0, rfl, rfl, rfl, by omega, fun t ht => absurd ht (Nat.not_lt_zero t)⟩ ⟨rfl, rfl, rfl, rfl, trivial⟩ ⟨rfl, trivial⟩ ?_
  rintro kk E m ⟨i, rfl, rfl, rfl, hf0_0, hf0_1⟩
  simp only [zo, zu]
  refine (gq) ?_
  refine (Qcd) (fun hc2=>?_) fun hc2=>?_
  ·have hc2 : i < 64 := by omega
   refine (jq)<|(QX)<|(g8)<|Qs ?_
   rcases (by omega : ¬ n ≤ i ∨ (n ≤ i ∧ d i = 0) ∨ (n ≤ i ∧ d i ≠ 0)) with hz | ⟨hge, hz⟩ | ⟨hge, hne⟩
   ·skip
    refine (j0)<|(j5)<|(QE)<|(Qaf)<|(Qm)<|(g5)<|(QF)<|(gn)<|(gk) ?_
    refine QzL ⟨i + 1, rfl, rfl, rfl, by omega, fun t ht hnt => by rcases (by omega : t < i ∨ t = i) with h | rfl; exact hf0_1 t h hnt; first | exact hz | exact absurd hnt (by omega)⟩ ⟨rfl, rfl, rfl, rfl, trivial⟩ ⟨rfl, trivial⟩ ?_
    omega
   ·skip
    refine (j0)<|(j5)<|(QE)<|(Qat)<|(gm)<|(QN)<|(Qaf)<|(QT)<|(gn)<|(gk) ?_
    refine QzL ⟨i + 1, rfl, rfl, rfl, by omega, fun t ht hnt => by rcases (by omega : t < i ∨ t = i) with h | rfl; exact hf0_1 t h hnt; first | exact hz | exact absurd hnt (by omega)⟩ ⟨rfl, rfl, rfl, rfl, trivial⟩ ⟨rfl, trivial⟩ ?_
    omega
   ·skip
    refine (j0)<|(j5)<|(QE)<|(Qat)<|(gm)<|(QN)<|(Qat)<|(QT)<|(gu)<|(j4) ?_
    first | rw [YG (i := i) (by omega) hge hne] | rw [YK hf0_1 hkx]
    exact ⟨_, rfl, yt⟩
  ·have hz0 : i = 64 := by omega
   subst hz0
   refine (jn)<|(j5)<|(Qm)<|(QN)<|(gt) ?_
   first | rw [YG (i := i) (by omega) hge hne] | rw [YK hf0_1 hkx]
   exact ⟨_, rfl, yt⟩
end Go.Proofs.YtlidhfijmcelpaaGreatDoor
