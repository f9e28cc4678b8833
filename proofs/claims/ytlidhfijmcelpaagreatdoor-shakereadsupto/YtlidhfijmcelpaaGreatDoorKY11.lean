import Derived.Test.YtlidhfijmcelpaaGreatDoorKY10
set_option maxHeartbeats 8000000
set_option maxRecDepth 30000
attribute [local simp] Go.Proofs.YtlidhfijmcelpaaGreatDoor.By Go.Proofs.YtlidhfijmcelpaaGreatDoor.L8
namespace Go.Proofs.YtlidhfijmcelpaaGreatDoor
open Go Go.RowKit
variable {G : Mem}
theorem yy (x y : Nat) (hx : x < 2 ^ 256) (hy : y < 2 ^ 256) : Fp (⟨2, arr .u64 16 (d16 PP), 120⟩ :: G) 86 #[dg x, dg y] (dg (x * y % PP)) := by
 refine Qf1 Tryz.func86 ?_
 refine (g4)<|(Qh 0) fun r1=>(Qh 1) fun r2=>(QH 2) fun r3=>(gl)<|(QH 3) fun r4=>Qn<|(gs)<|(Qd 0)<|(Qm)<|Qn<|Qb ?_
 refine Qz (fun kk E m => ∃ (k : Nat) (o : Nat → Nat), kk = 16 - k ∧ E = [(3, ptr r2), (4, ptr r3), (5, ptr r4), (12, .agg (arr .u64 16 (d16 x))), (13, ii k)] ∧ m = [(0, some ⟨r1, arr .u64 16 (d16 x), 120⟩), (1, some ⟨r2, arr .u64 16 (d16 y), 120⟩), (2, some ⟨r3, arr .u64 16 (fun _ => 0), 120⟩), (3, some ⟨r4, arr .u64 32 o, 168⟩)] ∧ (k ≤ 16) ∧ (vs o 32 = x % 2 ^ (16 * k) * y) ∧ (∀ t, o t ≤ k * 4294836225)) ⟨0, fun _ => 0, rfl, rfl, rfl, by omega, z81 x y, fun t => Nat.zero_le _⟩ ⟨rfl, rfl, rfl, rfl, rfl, trivial⟩ ⟨rfl, rfl, rfl, rfl, trivial⟩ ?_
 rintro kk E m ⟨k, o, rfl, rfl, rfl, hf0_0, hf0_1, hf0_2⟩
 refine (gq) ?_
 refine (Qcd) (fun hc0=>?_) fun hc0=>?_
 ·refine Qk<|Qs<|Qb<|Qs<|Qp<|(Qm)<|(QX)<|(Qa)<|(Qa)<|Qn<|Qs<|Qp<|(Qd 1)<|(Qm)<|Qn<|Qb ?_
  refine Qz (fun kk E m => ∃ (j : Nat) (o2 : Nat → Nat), kk = 16 - j ∧ E = [(3, ptr r2), (4, ptr r3), (5, ptr r4), (12, .agg (arr .u64 16 (d16 x))), (13, ii k), (6, ii k), (7, u (d16 x k)), (17, .agg (arr .u64 16 (d16 y))), (18, ii j)] ∧ m = [(0, some ⟨r1, arr .u64 16 (d16 x), 120⟩), (1, some ⟨r2, arr .u64 16 (d16 y), 120⟩), (2, some ⟨r3, arr .u64 16 (fun _ => 0), 120⟩), (3, some ⟨r4, arr .u64 32 o2, 168⟩)] ∧ (j ≤ 16) ∧ (vs o2 32 = x % 2 ^ (16 * k) * y + d16 x k * (y % 2 ^ (16 * j)) * 2 ^ (16 * k)) ∧ (∀ t, o2 t ≤ (k + 1) * 4294836225) ∧ (∀ t, k + j ≤ t → o2 t ≤ k * 4294836225)) ⟨0, o, rfl, rfl, rfl, by omega, by rw [hf0_1]; simp [Nat.mod_one], fun t => Nat.le_trans (hf0_2 t) (Nat.mul_le_mul_right _ (Nat.le_succ k)), fun t _ => hf0_2 t⟩ ⟨rfl, rfl, rfl, rfl, rfl, rfl, rfl, rfl, rfl, trivial⟩ ⟨rfl, rfl, rfl, rfl, trivial⟩ ?_
  rintro kk E m ⟨j, o2, rfl, rfl, rfl, hf1_0, hf1_1, hf1_2, hf1_3⟩
  have hml := z4I x y k j
  have hok := hf1_2 (k + j)
  refine (gq) ?_
  refine (Qcd) (fun hc1=>?_) fun hc1=>?_
  ·refine Qk<|Qs<|Qb<|Qs<|Qp<|(Qm)<|(QX)<|(Qa)<|(Qa)<|Qn<|Qp<|(Qm)<|(Qm)<|(Q3)<|(Qi)<|(Q1 3)<|(Qm)<|(Qm) ?_
   refine xh rfl rfl rfl  ?_
   refine (Au (Nat.mod_eq_of_lt (show d16 x k * d16 y j < 18446744073709551616 by omega)))<|(Qau) ?_
   refine (Au (Ys (o2 (k + j)) (d16 x k * d16 y j) (by omega) (by omega)))<|(Qi)<|(Qu 3)<|(jc) ?_
   refine Qzr ⟨j + 1, upd o2 (k + j) (o2 (k + j) + d16 x k * d16 y j), rfl, rfl, rfl, by omega, zi7 (by omega) hf1_1, zhr hf1_2 hf1_3 (z4I x y k j), zja hf1_3⟩ ⟨rfl, rfl, rfl, rfl, rfl, rfl, rfl, rfl, rfl, trivial⟩ ⟨rfl, rfl, rfl, rfl, trivial⟩ ?_
   omega
  ·have hj : j = 16 := by omega
   subst hj
   refine Qe<|(gk) ?_
   refine Qzr ⟨k + 1, o2, rfl, rfl, rfl, by omega, zcf hy hf1_1, hf1_2⟩ ⟨rfl, rfl, rfl, rfl, rfl, trivial⟩ ⟨rfl, rfl, rfl, rfl, trivial⟩ ?_
   omega
 ·have hk : k = 16 := by omega
  subst hk
  rw [Nat.mod_eq_of_lt (show x < 2 ^ (16 * 16) from hx)] at hf0_1
  refine (jn)<|(QH 4) fun r5=>Qn<|(jg) ?_
  refine Qz (fun kk E m => ∃ (i : Nat) (s : Nat → Nat), kk = 16 - i ∧ E = [(4, ptr r3), (5, ptr r4), (10, ptr r5), (34, ii i)] ∧ m = [(0, some ⟨r1, arr .u64 16 (d16 x), 120⟩), (1, some ⟨r2, arr .u64 16 (d16 y), 120⟩), (2, some ⟨r3, arr .u64 16 (fun _ => 0), 120⟩), (3, some ⟨r4, arr .u64 32 o, 168⟩), (4, some ⟨r5, arr .u64 16 s, 120⟩)] ∧ (i ≤ 16) ∧ (∀ t, t < i → s t = o t + 38 * o (t + 16))) ⟨0, fun _ => 0, rfl, rfl, rfl, by omega, fun t ht => absurd ht (Nat.not_lt_zero t)⟩ ⟨rfl, rfl, rfl, rfl, trivial⟩ ⟨rfl, rfl, rfl, rfl, rfl, trivial⟩ ?_
  rintro kk E m ⟨i, s, rfl, rfl, rfl, hf2_0, hf2_1⟩
  have ho1 := hf0_2 i
  have ho2 := hf0_2 (i + 16)
  refine (gq) ?_
  refine (Qcd) (fun hc2=>?_) fun hc2=>?_
  ·refine Qk<|Qs<|Qb<|Qs<|Qp<|(Qm)<|(Qa)<|Qn<|(Qg)<|(Qm)<|(Qm)<|(Qi)<|(Q1 3)<|(Qm)<|(Q2 16)<|(Qi)<|(Q1 3) ?_
   refine xh (p := 38) rfl rfl rfl  ?_
   refine (Au (Nat.mod_eq_of_lt (show 38 * o (i + 16) < 18446744073709551616 by omega)))<|(Qau) ?_
   refine (Au (Ys (o i) (38 * o (i + 16)) (by omega) (by omega)))<|(Qi)<|(Qu 4)<|(jc) ?_
   refine Qzr ⟨i + 1, upd s i (o i + 38 * o (i + 16)), rfl, rfl, rfl, by omega, yM (g := fun t => o t + 38 * o (t + 16)) hf2_1 rfl⟩ ⟨rfl, rfl, rfl, rfl, trivial⟩ ⟨rfl, rfl, rfl, rfl, rfl, trivial⟩ ?_
   omega
  ·have hi : i = 16 := by omega
   subst hi
   refine (jn)<|(Qd 4) ?_
   refine (Ca (vY s (fun t ht => by rw [hf2_1 t ht]; have := hf0_2 t; have := hf0_2 (t + 16); omega)))<|(Qt 2)<|Qn<|Qr ?_
   rw [← zdl hf0_1 hf2_1]
   exact ⟨_, rfl, ya 2⟩
theorem zdF (x : Nat) (hx : x < PP) : Fp (⟨2, arr .u64 16 (d16 PP), 120⟩ :: G) 87 #[dg x] (dg (x ^ EE % PP)) := by
 have hPP := Yz
 refine Qf1 Tryz.func87 ?_
 refine (g4)<|(Qh 0) fun r1=>(QH 1) fun r2=>(gl) ?_
 refine zX (arr .u64 16 (upd (fun _ => 0) 0 1)) (Ub 120 rfl) (Uu 120 rfl) (Uz 31 rfl) rfl rfl rfl ?_
 refine z6 (z6T 1 (by decide)) ?_
 refine (QH 2) fun r3=>(Qt 2)<|(gl) ?_
 refine z4W (i := 0) (Uu 120) rfl (Uz 120) rfl rfl (zd _ _ _) rfl ?_
 refine (QH 3) fun r4=>(Qt 3)<|(gl)<|(Qj 0)<|(Q1 3) ?_
 refine xV (q := 2) rfl rfl rfl (by omega) ?_
 refine (Au zjh)<|(Qj 0)<|(Qu 3)<|Qn<|(jg) ?_
 refine Qz (fun kk E m => ∃ (k : Nat) (b : Nat) (o : Nat), kk = 255 - k ∧ E = [(1, ptr r1), (2, ptr r2), (3, ptr r3), (4, ptr r4), (12, ii k)] ∧ m = [(0, some ⟨r1, arr .u64 16 (d16 b), 120⟩), (1, some ⟨r2, arr .u64 16 (fun _ => 0), 120⟩), (2, some ⟨r3, arr .u64 16 (d16 o), 120⟩), (3, some ⟨r4, arr .u64 16 (upd (d16 PP) 0 (d16 PP 0 - 2)), 120⟩)] ∧ (k ≤ 255) ∧ (b = x ^ (2 ^ k) % PP) ∧ (o = x ^ (EE % 2 ^ k) % PP)) ⟨0, x, 1, rfl, rfl, rfl, by omega, by rw [Nat.pow_zero, Nat.pow_one, Nat.mod_eq_of_lt hx], zec x⟩ ⟨rfl, rfl, rfl, rfl, rfl, trivial⟩ ⟨rfl, rfl, rfl, rfl, trivial⟩ ?_
 rintro kk E m ⟨k, b, o, rfl, rfl, rfl, hf0_0, hf0_1, hf0_2⟩
 have hbl : b < 2 ^ 256 := by rw [hf0_1]; exact Nat.lt_trans (Nat.mod_lt _ (by decide)) (by decide)
 have hol : o < 2 ^ 256 := by rw [hf0_2]; exact Nat.lt_trans (Nat.mod_lt _ (by decide)) (by decide)
 refine (gq) ?_
 refine (Qcd) (fun hc0=>?_) fun hc0=>?_
 ·refine Qk<|Qs<|Qb<|Qs<|Qp<|(Qm)<|(Qa)<|Qn<|Qs<|Qs<|Qp<|(Qm)<|(Q5 16)<|(Qi)<|(Q1 3) ?_
  refine (Au (zaE (k / 16) (by omega)))<|(Qm)<|(Q4 16) ?_
  refine YY rfl rfl rfl (by omega) ?_
  refine YC (q := 2) rfl rfl rfl (by omega) ?_
  refine (Au (zaP EE k))<|(Qc)<|Qn ?_
  refine (Qcd) (fun hc1=>?_) fun hc1=>?_
  ·have hc1 : EE / 2 ^ k % 2 = 1 := by omega
   refine Qp<|(Qd 2)<|(Qd 0) ?_
   refine (Ca (yy o b hol hbl))<|(Qt 2)<|Qn<|Qp<|(Qd 0)<|(Qd 0) ?_
   refine (Ca (yy b b hbl hbl))<|(Qt 0)<|(jc) ?_
   refine Qzr ⟨k + 1, b * b % PP, _, rfl, rfl, rfl, by omega, zik x k b hf0_1, by first | exact z4o x k o b hf0_2 hf0_1 hc1 | exact z5l x k o hf0_2 hc1⟩ ⟨rfl, rfl, rfl, rfl, rfl, trivial⟩ ⟨rfl, rfl, rfl, rfl, trivial⟩ ?_
   omega
  ·have hc1 : ¬ EE / 2 ^ k % 2 = 1 := by omega
   refine Qk<|Qp<|(Qd 0)<|(Qd 0) ?_
   refine (Ca (yy b b hbl hbl))<|(Qt 0)<|(jc) ?_
   refine Qzr ⟨k + 1, b * b % PP, _, rfl, rfl, rfl, by omega, zik x k b hf0_1, by first | exact z4o x k o b hf0_2 hf0_1 hc1 | exact z5l x k o hf0_2 hc1⟩ ⟨rfl, rfl, rfl, rfl, rfl, trivial⟩ ⟨rfl, rfl, rfl, rfl, trivial⟩ ?_
   omega
 ·have hk : k = 255 := by omega
  subst hk
  rw [zco] at hf0_2
  refine (jn)<|(Qd 2)<|(ja)<|Qr ?_
  rw [← hf0_2]
  exact ⟨_, rfl, ya 1⟩
theorem z6E (a : Nat) (ha : a < 2 ^ 256) : Fp (⟨2, arr .u64 16 (d16 PP), 120⟩ :: G) 124 #[fe a] (fe (a % PP)) := by
 refine Qf1 Tryz.func124 ?_
 refine (g4)<|(Qh 0) fun r1=>(QH 1) fun r2=>(gl)<|(Qd 0) ?_
 refine (Ca (z9C _)) ?_
 refine z9 rfl (Un 126) (vY (d16 a) (fun j _ => Nat.lt_trans (xg a j) (by decide))) rfl rfl ?_
 refine z6 (congrArg (fun z => dg (z % PP)) (Y3 a ha)) ?_
 refine (Ca (z9z (d16 (a % PP)) (fun j _ => xg _ j))) ?_
 refine z6 (congrArg fe (Y3 (a % PP) (Nat.lt_trans (Nat.mod_lt _ (by decide)) (by decide)))) ?_
 refine (ja)<|Qr ?_
 exact ⟨_, rfl, ya 1⟩
theorem z3p (f : NN) (hf : L8 32 f) : Fp (⟨2, arr .u64 16 (d16 PP), 120⟩ :: G) 83 #[.agg (arr .u8 32 f)] (fe (vb f 32 % 2 ^ 255 % PP)) := by
 refine Qf1 Tryz.func83 ?_
 refine (g4)<|(Qh 0) fun r1=>(QH 1) fun r2=>(gl)<|(QH 2) fun r3=>Qn<|Qs<|(gd)<|Qb ?_
 refine Qz (fun kk E m => ∃ (n : Nat) (s : Nat → Nat), kk = 2 * n ∧ E = [(1, ptr r1), (2, ptr r2), (3, ptr r3), (4, .int .i64 (((n : Nat) : Int) - 1))] ∧ m = [(0, some ⟨r1, arr .u8 32 f, 23⟩), (1, some ⟨r2, arr .u64 4 (fun _ => 0), 127⟩), (2, some ⟨r3, arr .u64 4 s, 127⟩)] ∧ (n ≤ 32) ∧ (∀ j, j < 4 → s j = wd (vb f 32 % 2 ^ 255) j / 2 ^ (8 * (n - 8 * j)))) ⟨32, fun _ => 0, rfl, rfl, rfl, by omega, z7y (vb f 32 % 2 ^ 255)⟩ ⟨rfl, rfl, rfl, rfl, trivial⟩ ⟨rfl, rfl, rfl, trivial⟩ ?_
 rintro kk E m ⟨n, s, rfl, rfl, rfl, hf0_0, hf0_1⟩
 refine (ge)<|(QE)<|Qn ?_
 refine (Qcd) (fun hc0=>?_) fun hc0=>?_
 ·obtain ⟨i, rfl⟩ : ∃ i, n = i + 1 := ⟨n - 1, by omega⟩
  have hfi := hf i (by omega)
  refine (jq) ?_
  refine z6 (congrArg (Value.int .i64) (show ((i + 1 : Nat) : Int) - 1 = ((i : Nat) : Int) by omega)) ?_
  refine (gv) ?_
  refine xz (Uu 5) (Uu 31) rfl rfl rfl ?_
  refine (Au (Nat.mod_eq_of_lt (show f i < 18446744073709551616 by omega)))<|(g3)<|(ge) ?_
  refine z6 (congrArg (Value.int .i64) (show ((i + 1 : Nat) : Int) - 1 = ((i : Nat) : Int) by omega)) ?_
  refine (Qc)<|Qn ?_
  refine (Qcd) (fun hc1=>?_) fun hc1=>?_
  ·have hby : f i % 128 = bt (vb f 32 % 2 ^ 255) i := zfZ hf (by omega)
   refine (j0) ?_
   refine YC (q := 128) rfl rfl rfl (by omega) ?_
   refine (g3)<|(j0) ?_
   refine z6 (congrArg (Value.int .i64) (show ((i + 1 : Nat) : Int) - 1 = ((i : Nat) : Int) by omega)) ?_
   refine (Q5 8)<|(Qm) ?_
   refine z6 (congrArg (Value.int .i64) (show ((i + 1 : Nat) : Int) - 1 = ((i : Nat) : Int) by omega)) ?_
   refine (Q5 8)<|(Qi)<|(Q1 2) ?_
   refine (Au (hf0_1 (i / 8) (by omega))) ?_
   refine xh (q := 256) rfl rfl rfl  ?_
   refine (Qm) ?_
   refine (Au hby)<|(Qau) ?_
   refine (Au (z2C (vb f 32 % 2 ^ 255) i))<|(Qi)<|(Qu 2)<|Qn<|(j0) ?_
   refine xH (q := 1) rfl rfl rfl (by omega) (by omega) ?_
   refine (g3) ?_
   refine Qzr ⟨i, upd s (i / 8) (wd (vb f 32 % 2 ^ 255) (i / 8) / 2 ^ (8 * (i - 8 * (i / 8)))), rfl, rfl, rfl, by omega, z2I hf0_1⟩ ⟨rfl, rfl, rfl, congrArg (fun z => some (Value.int .i64 z)) (show ((i + 1 : Nat) : Int) - 1 - 1 = ((i : Nat) : Int) - 1 by omega), trivial⟩ ⟨rfl, rfl, rfl, trivial⟩ ?_
   omega
  ·have hby : f i = bt (vb f 32 % 2 ^ 255) i := zeO hf (by omega)
   refine Qk<|(j0) ?_
   refine z6 (congrArg (Value.int .i64) (show ((i + 1 : Nat) : Int) - 1 = ((i : Nat) : Int) by omega)) ?_
   refine (Q5 8)<|(Qm) ?_
   refine z6 (congrArg (Value.int .i64) (show ((i + 1 : Nat) : Int) - 1 = ((i : Nat) : Int) by omega)) ?_
   refine (Q5 8)<|(Qi)<|(Q1 2) ?_
   refine (Au (hf0_1 (i / 8) (by omega))) ?_
   refine xh (q := 256) rfl rfl rfl  ?_
   refine (Qm) ?_
   refine (Au hby)<|(Qau) ?_
   refine (Au (z2C (vb f 32 % 2 ^ 255) i))<|(Qi)<|(Qu 2)<|Qn<|(j0) ?_
   refine xH (q := 1) rfl rfl rfl (by omega) (by omega) ?_
   refine (g3) ?_
   refine Qzr ⟨i, upd s (i / 8) (wd (vb f 32 % 2 ^ 255) (i / 8) / 2 ^ (8 * (i - 8 * (i / 8)))), rfl, rfl, rfl, by omega, z2I hf0_1⟩ ⟨rfl, rfl, rfl, congrArg (fun z => some (Value.int .i64 z)) (show ((i + 1 : Nat) : Int) - 1 - 1 = ((i : Nat) : Int) - 1 by omega), trivial⟩ ⟨rfl, rfl, rfl, trivial⟩ ?_
   omega
 ·have hn0 : n = 0 := by omega
  subst hn0
  refine (jn)<|(Qd 2) ?_
  refine z6 (z06 (zfH hf0_1)).symm ?_
  refine z9 rfl (Un 124) (z6E (vb f 32 % 2 ^ 255) (Nat.lt_trans (Nat.mod_lt _ (Nat.pow_pos (by decide))) (by decide))) rfl rfl ?_
  refine (ja)<|Qr ?_
  exact ⟨_, rfl, ya 1⟩
theorem z7m (a : Nat) (ha : a < PP) : Fp (⟨2, arr .u64 16 (d16 PP), 120⟩ :: G) 84 #[fe a] (.tuple #[z7b a, ii 0]) := by
 have hPP := Yz
 refine Qf2 Tryz.func84 ?_
 refine (g4)<|(Qh 0) fun r1=>(QH 1) fun r2=>(j9)<|(QH 2) fun r3=>Qn<|(gs)<|(Qd 0) ?_
 refine z9 rfl (Un 125) (zkx _ (by omega)) rfl rfl ?_
 refine (Q0) ?_
 refine (Ab (show (!decide (a < PP)) = false by simp [ha]))<|(gn)<|(gs)<|(Qd 0) ?_
 refine (Ca (z9C _))<|(Qm)<|Qn<|Qb ?_
 refine Qz (fun kk E m => ∃ (k : Nat) (s : Nat → Nat), kk = 16 - k ∧ E = [(1, ptr r1), (2, ptr r2), (4, ptr r3), (12, .agg (arr .u64 16 (d16 a))), (13, ii k)] ∧ m = [(0, some ⟨r1, arr .u64 4 (wd a), 127⟩), (1, some ⟨r2, arr .u8 32 (fun _ => 0), 23⟩), (2, some ⟨r3, arr .u8 32 s, 23⟩)] ∧ (k ≤ 16) ∧ (∀ j, j < 2 * k → s j = bt a j)) ⟨0, fun _ => 0, rfl, rfl, rfl, by omega, fun j hj => absurd hj (Nat.not_lt_zero j)⟩ ⟨rfl, rfl, rfl, rfl, rfl, trivial⟩ ⟨rfl, rfl, rfl, trivial⟩ ?_
 rintro kk E m ⟨k, s, rfl, rfl, rfl, hf0_0, hf0_1⟩
 have hdk := xg a k
 refine (gq) ?_
 refine (Qcd) (fun hc1=>?_) fun hc1=>?_
 ·refine Qk<|Qs<|Qb<|Qs<|Qp<|(Qm)<|(QX)<|(Qa)<|(Qa)<|Qn<|Qp<|(Qm)<|(Q7 2)<|(Qm)<|(Q7 2)<|(Q2 1)<|(Qm) ?_
  refine x8 (Uu 31) (Uu 5) rfl rfl rfl ?_
  refine (Qm) ?_
  refine YL (q := 256) rfl rfl rfl (by omega) (by omega) ?_
  refine x8 (Uu 31) (Uu 5) rfl rfl rfl ?_
  refine (Qi)<|(Qu 2)<|(Qi)<|(Qu 2)<|(jc) ?_
  refine Qzr ⟨k + 1, upd (upd s (2 * k) _) (2 * k + 1) _, rfl, rfl, rfl, by omega, yM (g := bt a) (yM (g := bt a) hf0_1 (zaW a k)) (zeX a k)⟩ ⟨rfl, rfl, rfl, rfl, rfl, trivial⟩ ⟨rfl, rfl, rfl, trivial⟩ ?_
  omega
 ·have hk : k = 16 := by omega
  subst hk
  refine (jn)<|(Qd 2)<|(Qt 1)<|(gt) ?_
  rw [← z4K hf0_1]
  exact ⟨_, _, rfl, ya 1, yt⟩
theorem zb2 (f : NN) (hf : L8 32 f) : Fp G 81 #[.agg (arr .u8 32 f)] (.agg (arr .u8 32 (z0t f))) := by
 have hf0 := hf 0 (by decide)
 refine Qf1 Tryz.func81 ?_
 refine (g4)<|(Qh 0) fun r1=>(QH 1) fun r2=>(gl)<|(Qj 0)<|(Q1 0)<|(Qj 0)<|(Q1 0) ?_
 refine z33 (q := 8) rfl rfl rfl (by omega) ?_
 refine z3n rfl rfl rfl (by omega) ?_
 refine (Qj 0)<|(Qu 0)<|(gl)<|(Qj 31)<|(Q1 0) ?_
 refine z33 (q := 64) rfl rfl rfl (by omega) ?_
 refine zhh (q := 64) rfl rfl rfl  ?_
 refine (Qj 31)<|(Qu 0)<|(gl)<|(Qd 0)<|(ja)<|Qr ?_
 rw [← zdh hf rfl rfl]
 exact ⟨_, rfl, ya 1⟩
theorem z0B (p : Nat × Nat) (h : Lt2 p) : Fp (⟨2, arr .u64 16 (d16 PP), 120⟩ :: G) 123 #[p2v p] (p2v (Wa p)) := by
 obtain ⟨a, ha⟩ : ∃ a, a = (p.1 + p.2) % PP := ⟨_, rfl⟩
 have haL : a < PP := by rw [ha]; exact Nat.mod_lt _ (by decide)
 obtain ⟨b, hb⟩ : ∃ b, b = (p.1 + (PP - p.2) % PP) % PP := ⟨_, rfl⟩
 have hbL : b < PP := by rw [hb]; exact Nat.mod_lt _ (by decide)
 obtain ⟨s, hs⟩ : ∃ s, s = a * a % PP := ⟨_, rfl⟩
 have hsL : s < PP := by rw [hs]; exact Nat.mod_lt _ (by decide)
 obtain ⟨d, hd⟩ : ∃ d, d = b * b % PP := ⟨_, rfl⟩
 have hdL : d < PP := by rw [hd]; exact Nat.mod_lt _ (by decide)
 obtain ⟨e, he⟩ : ∃ e, e = (s + (PP - d) % PP) % PP := ⟨_, rfl⟩
 have heL : e < PP := by rw [he]; exact Nat.mod_lt _ (by decide)
 have hfin : (s * d % PP, e * ((d + 121666 * e % PP) % PP) % PP) = Wa p := by rw [he, hs, hd, ha, hb]; rfl
 refine Qf1 Tryz.func123 ?_
 refine (g4)<|(Qh 0) fun r1=>(QH 1) fun r2=>(jf)<|(Qf 0)<|(Qls 0) ?_
 refine z6 (z6O _) ?_
 refine (Qf 16)<|(Qls 0) ?_
 refine z6 (z0L _) ?_
 refine (Ca (Zd _ _ (y9 h.1) (y9 h.2))) ?_
 refine z6 (congrArg dg ha.symm) ?_
 refine (Qf 0)<|(Qls 0) ?_
 refine z6 (z6O _) ?_
 refine (Qf 16)<|(Qls 0) ?_
 refine z6 (z0L _) ?_
 refine (Ca (z10 _ (Nat.le_of_lt h.2))) ?_
 refine z9 rfl (Un 160) (Zd _ _ (y9 h.1) (y9 (Nat.mod_lt _ (by decide)))) rfl rfl ?_
 refine z6 (congrArg dg hb.symm) ?_
 refine (QH 2) fun r3=>(QH 3) fun r4=>(Qt 2)<|(Qt 3)<|(jf)<|(Qd 2)<|(Qd 2) ?_
 refine (Ca (yy _ _ (y9 haL) (y9 haL))) ?_
 refine z6 (congrArg dg hs.symm) ?_
 refine (Qd 3)<|(Qd 3) ?_
 refine (Ca (yy _ _ (y9 hbL) (y9 hbL))) ?_
 refine z6 (congrArg dg hd.symm) ?_
 refine (QH 4) fun r5=>(QH 5) fun r6=>(Qt 4)<|(Qt 5)<|(jf)<|(Qd 4)<|(Qd 5) ?_
 refine (Ca (z10 _ (Nat.le_of_lt hdL))) ?_
 refine z9 rfl (Un 160) (Zd _ _ (y9 hsL) (y9 (Nat.mod_lt _ (by decide)))) rfl rfl ?_
 refine z6 (congrArg dg he.symm) ?_
 refine (QH 6) fun r7=>(Qt 6)<|(jf)<|(Qd 4)<|(Qd 5) ?_
 refine (Ca (yy _ _ (y9 hsL) (y9 hdL)))<|(Qd 6)<|(Qd 5) ?_
 refine zX (arr .u64 16 (upd (upd (fun _ => 0) 0 56130) 1 1)) (Ub 120 rfl) (Uu 120 rfl) (Uz 31 rfl) rfl (by kernel_rfl) rfl ?_
 refine z6 ziU ?_
 refine (Qd 6) ?_
 refine z9 rfl (Un 86) (yy _ _ (by decide) (y9 heL)) rfl rfl ?_
 refine z9 rfl (Un 160) (Zd _ _ (y9 hdL) (y9 (Nat.mod_lt _ (by decide)))) rfl rfl ?_
 refine z9 rfl (Un 86) (yy _ _ (y9 heL) (y9 (Nat.mod_lt _ (by decide)))) rfl rfl ?_
 refine zC _ (Ub 122 rfl) (Uu 122 rfl) z2Y rfl (zdA _ _) rfl ?_
 refine z6 (congrArg p2v hfin) ?_
 refine (ja)<|Qr ?_
 exact ⟨_, rfl, ya 1⟩
theorem z4g (p q : Nat × Nat) (U : Nat) (h : Lt2 p) (h2 : Lt2 q) (hU : U < PP) : Fp (⟨2, arr .u64 16 (d16 PP), 120⟩ :: G) 122 #[p2v p, p2v q, dg U] (p2v (vi U p q)) := by
 obtain ⟨a, ha⟩ : ∃ a, a = ((p.1 + (PP - p.2) % PP) % PP) * ((q.1 + q.2) % PP) % PP := ⟨_, rfl⟩
 have haL : a < PP := by rw [ha]; exact Nat.mod_lt _ (by decide)
 obtain ⟨b, hb⟩ : ∃ b, b = ((p.1 + p.2) % PP) * ((q.1 + (PP - q.2) % PP) % PP) % PP := ⟨_, rfl⟩
 have hbL : b < PP := by rw [hb]; exact Nat.mod_lt _ (by decide)
 obtain ⟨s, hs⟩ : ∃ s, s = (a + b) % PP := ⟨_, rfl⟩
 have hsL : s < PP := by rw [hs]; exact Nat.mod_lt _ (by decide)
 obtain ⟨d, hd⟩ : ∃ d, d = (a + (PP - b) % PP) % PP := ⟨_, rfl⟩
 have hdL : d < PP := by rw [hd]; exact Nat.mod_lt _ (by decide)
 have hfin : (s * s % PP, U * (d * d % PP) % PP) = vi U p q := by rw [hs, hd, ha, hb]; rfl
 refine Qf1 Tryz.func122 ?_
 refine (g4)<|(Qh 0) fun r1=>(Qh 1) fun r2=>(Qh 2) fun r3=>(QH 3) fun r4=>(jf)<|(Qf 0)<|(Qls 0) ?_
 refine z6 (z6O _) ?_
 refine (Qf 16)<|(Qls 0) ?_
 refine z6 (z0L _) ?_
 refine (Ca (z10 _ (Nat.le_of_lt h.2))) ?_
 refine z9 rfl (Un 160) (Zd _ _ (y9 h.1) (y9 (Nat.mod_lt _ (by decide)))) rfl rfl ?_
 refine (Qf 0)<|(Qls 1) ?_
 refine z6 (z6O _) ?_
 refine (Qf 16)<|(Qls 1) ?_
 refine z6 (z0L _) ?_
 refine (Ca (Zd _ _ (y9 h2.1) (y9 h2.2))) ?_
 refine z9 rfl (Un 86) (yy _ _ (y9 (Nat.mod_lt _ (by decide))) (y9 (Nat.mod_lt _ (by decide)))) rfl rfl ?_
 refine z6 (congrArg dg ha.symm) ?_
 refine (QH 4) fun r5=>(Qt 4)<|(jf)<|(Qf 0)<|(Qls 0) ?_
 refine z6 (z6O _) ?_
 refine (Qf 16)<|(Qls 0) ?_
 refine z6 (z0L _) ?_
 refine (Ca (Zd _ _ (y9 h.1) (y9 h.2)))<|(Qf 0)<|(Qls 1) ?_
 refine z6 (z6O _) ?_
 refine (Qf 16)<|(Qls 1) ?_
 refine z6 (z0L _) ?_
 refine (Ca (z10 _ (Nat.le_of_lt h2.2))) ?_
 refine z9 rfl (Un 160) (Zd _ _ (y9 h2.1) (y9 (Nat.mod_lt _ (by decide)))) rfl rfl ?_
 refine z9 rfl (Un 86) (yy _ _ (y9 (Nat.mod_lt _ (by decide))) (y9 (Nat.mod_lt _ (by decide)))) rfl rfl ?_
 refine z6 (congrArg dg hb.symm) ?_
 refine (QH 5) fun r6=>(Qt 5)<|(jf)<|(Qd 4)<|(Qd 5) ?_
 refine (Ca (Zd _ _ (y9 haL) (y9 hbL))) ?_
 refine z6 (congrArg dg hs.symm) ?_
 refine (Qd 4)<|(Qd 5) ?_
 refine (Ca (z10 _ (Nat.le_of_lt hbL))) ?_
 refine z9 rfl (Un 160) (Zd _ _ (y9 haL) (y9 (Nat.mod_lt _ (by decide)))) rfl rfl ?_
 refine z6 (congrArg dg hd.symm) ?_
 refine (QH 6) fun r7=>(QH 7) fun r8=>(Qt 6)<|(Qt 7)<|(jf)<|(Qd 6)<|(Qd 6) ?_
 refine (Ca (yy _ _ (y9 hsL) (y9 hsL)))<|(Qd 2)<|(Qd 7)<|(Qd 7) ?_
 refine (Ca (yy _ _ (y9 hdL) (y9 hdL))) ?_
 refine z9 rfl (Un 86) (yy _ _ (y9 hU) (y9 (Nat.mod_lt _ (by decide)))) rfl rfl ?_
 refine zC _ (Ub 122 rfl) (Uu 122 rfl) z2Y rfl (zdA _ _) rfl ?_
 refine z6 (congrArg p2v hfin) ?_
 refine (Qt 3)<|Qn<|Qr ?_
 exact ⟨_, rfl, ya 3⟩
theorem z7t (f : NN) (U : Nat) : Fp (⟨2, arr .u64 16 (d16 PP), 120⟩ :: G) 80 #[.agg (arr .u8 32 f), ii 255, dg U] (.tuple #[p2v (1, 0), p2v (U, 1)]) := by
 refine Qf2 Tryz.func80 ?_
 refine (g4)<|(Qh 0) fun r1=>(Qh 1) fun r2=>(QH 2) fun r3=>(QH 3) fun r4=>Qn<|(ge)<|(Qc)<|(Qar)<|(gu)<|Qs<|(Qq ⟨[r3, r4], 1, [], none, none⟩) ?_
 refine zX (arr .u64 16 (upd (fun _ => 0) 0 1)) (Ub 120 rfl) (Uu 120 rfl) (Uz 31 rfl) rfl (by kernel_rfl) rfl ?_
 refine z6 (z6T 1 (by decide)) ?_
 refine zC _ (Ub 122 rfl) (Uu 122 rfl) z2Y rfl (ziW _) rfl ?_
 refine z6 ziP ?_
 refine zV (i := 1) (Uu 120) rfl (Uz 120) rfl rfl (zd _ _ _) rfl ⟨[2, 3], rfl, rfl, rfl, rfl, trivial⟩ ?_
 refine zX (arr .u64 16 (upd (fun _ => 0) 0 1)) (Ub 120 rfl) (Uu 120 rfl) (Uz 31 rfl) rfl (by kernel_rfl) rfl ?_
 refine z6 (z6T 1 (by decide)) ?_
 refine zC _ (Ub 122 rfl) (Uu 122 rfl) z2Y rfl (zdA _ _) rfl ?_
 refine z4 (i := 2) (Uz 122) rfl rfl (zd _ _ _) zU rfl (yg _ _ _ _ _) (.inr (by simp)) ?_
 refine z4 (i := 3) (Uz 122) rfl rfl (zd _ _ _) zU rfl (yg _ _ _ _ _) (.inr (by simp)) ?_
 refine Qn<|Qr ?_
 exact ⟨_, _, rfl, ya 2, ya 3⟩
theorem z7G (f : NN) (U i : Nat) (L : (Nat × Nat) × (Nat × Nat)) (hf : L8 32 f) (hU : U < PP) (hi : i < 255) (hL : Lt2 L.1 ∧ Lt2 L.2) (ih : Fp (⟨2, arr .u64 16 (d16 PP), 120⟩ :: G) 80 #[.agg (arr .u8 32 f), ii (i + 1), dg U] (.tuple #[p2v L.1, p2v L.2])) : Fp (⟨2, arr .u64 16 (d16 PP), 120⟩ :: G) 80 #[.agg (arr .u8 32 f), ii i, dg U] (.tuple #[p2v (z4N U (vb f 32 / 2 ^ i % 2) L).1, p2v (z4N U (vb f 32 / 2 ^ i % 2) L).2]) := by
 have hbit := zcm hf i hi
 refine Qf2 Tryz.func80 ?_
 refine (g4)<|(Qh 0) fun r1=>(Qh 1) fun r2=>(QH 2) fun r3=>(QH 3) fun r4=>Qn<|(ge)<|(Qc)<|(gw)<|(g4)<|(Qd 0)<|(Qm)<|(Q2 1)<|(Qd 1) ?_
 refine (Ca ih)<|(gi)<|(QH 4) fun r5=>(QH 5) fun r6=>(Qt 4)<|(Qt 5)<|Qn<|(ge)<|(Q5 8)<|(gv)<|(Qm)<|(Q4 8) ?_
 refine z8k rfl rfl rfl (by omega) ?_
 refine z33 (q := 2) rfl rfl rfl (by omega) ?_
 refine (Qc)<|Qn ?_
 refine (Qcd) (fun hc1=>?_) fun hc1=>?_
 ·rw [z9I (by omega)]
  refine Qs<|(Qq ⟨[r3, r4], 1, [], none, none⟩) ?_
  refine zV (i := 4) (Uu 122) rfl (Uz 122) rfl rfl (zd _ _ _) rfl ⟨[2, 3], rfl, rfl, rfl, rfl, trivial⟩ ?_
  refine zV (i := 5) (Uu 122) rfl (Uz 122) rfl rfl (zd _ _ _) rfl ⟨[2, 3], rfl, rfl, rfl, rfl, trivial⟩ ?_
  refine zV (i := 1) (Uu 120) rfl (Uz 120) rfl rfl (zd _ _ _) rfl ⟨[2, 3], rfl, rfl, rfl, rfl, trivial⟩ ?_
  refine (Ca (z4g L.1 L.2 U hL.1 hL.2 hU)) ?_
  refine zV (i := 5) (Uu 122) rfl (Uz 122) rfl rfl (zd _ _ _) rfl ⟨[2, 3], rfl, rfl, rfl, rfl, trivial⟩ ?_
  refine (Ca (z0B L.2 hL.2)) ?_
  refine z4 (i := 2) (Uz 122) rfl rfl (zd _ _ _) zU rfl (yg _ _ _ _ _) (.inr (by simp)) ?_
  refine z4 (i := 3) (Uz 122) rfl rfl (zd _ _ _) zU rfl (yg _ _ _ _ _) (.inr (by simp)) ?_
  refine Qn<|Qr ?_
  exact ⟨_, _, rfl, ya 2, ya 3⟩
 ·rw [zcD (by omega)]
  refine Qk<|Qs<|(Qq ⟨[r3, r4], 1, [], none, none⟩) ?_
  refine zV (i := 4) (Uu 122) rfl (Uz 122) rfl rfl (zd _ _ _) rfl ⟨[2, 3], rfl, rfl, rfl, rfl, trivial⟩ ?_
  refine (Ca (z0B L.1 hL.1)) ?_
  refine zV (i := 4) (Uu 122) rfl (Uz 122) rfl rfl (zd _ _ _) rfl ⟨[2, 3], rfl, rfl, rfl, rfl, trivial⟩ ?_
  refine zV (i := 5) (Uu 122) rfl (Uz 122) rfl rfl (zd _ _ _) rfl ⟨[2, 3], rfl, rfl, rfl, rfl, trivial⟩ ?_
  refine zV (i := 1) (Uu 120) rfl (Uz 120) rfl rfl (zd _ _ _) rfl ⟨[2, 3], rfl, rfl, rfl, rfl, trivial⟩ ?_
  refine (Ca (z4g L.1 L.2 U hL.1 hL.2 hU)) ?_
  refine z4 (i := 2) (Uz 122) rfl rfl (zd _ _ _) zU rfl (yg _ _ _ _ _) (.inr (by simp)) ?_
  refine z4 (i := 3) (Uz 122) rfl rfl (zd _ _ _) zU rfl (yg _ _ _ _ _) (.inr (by simp)) ?_
  refine Qn<|Qr ?_
  exact ⟨_, _, rfl, ya 2, ya 3⟩
theorem z4B {G : Mem} (f : NN) (U : Nat) (hf : L8 32 f) (hU : U < PP) : ∀ m i, i + m = 255 → Fp (⟨2, arr .u64 16 (d16 PP), 120⟩ :: G) 80 #[.agg (arr .u8 32 f), ii i, dg U] (.tuple #[p2v (v6 U (vb f 32) m).1, p2v (v6 U (vb f 32) m).2])
 | 0, i, h => by
  obtain rfl : i = 255 := h
  exact z7t f U
 | m + 1, i, h => by
  have ih := z4B (G := G) f U hf hU m (i + 1) (by omega)
  have := z7G f U i (v6 U (vb f 32) m) hf hU (by omega) (W5 hU _ m) ih
  rw [zao, show 254 - m = i by omega]
  exact this
theorem zdZ (f g : NN) (hf : L8 32 f) (hg : L8 32 g) : Fp (⟨2, arr .u64 16 (d16 PP), 120⟩ :: G) 46 #[.agg (arr .u8 32 f), .agg (arr .u8 32 g)] (.tuple #[z7b (z5e (pnt g) (sec f)), .bool (!decide (z5e (pnt g) (sec f) = 0))]) := by
 have hl := W5 (z3l g) (sec f) 255
 refine Qf2 Tryz.func46 ?_
 refine (g4)<|(Qh 0) fun r1=>(Qh 1) fun r2=>(QH 2) fun r3=>(g3)<|(gr)<|(Qd 0) ?_
 refine (Ca (zb2 f hf))<|(Qd 1) ?_
 refine (Ca (z3p g hg)) ?_
 refine (Ca (z9C (pnt g))) ?_
 refine (Ca (z4B (z0t f) (pnt g) (z97 hf) (z3l g) 255 0 rfl))<|(gi)<|(QH 3) fun r4=>(QH 4) fun r5=>(Qt 3)<|(Qt 4)<|(jf)<|(Qf 0)<|(Qls 3) ?_
 refine z6 (z6O _) ?_
 refine (Qf 16)<|(Qls 3) ?_
 refine z6 (z0L _) ?_
 refine (Ca (zdF _ hl.1.2)) ?_
 refine z9 rfl (Un 86) (yy _ _ (y9 hl.1.1) (y9 (Nat.mod_lt _ (by decide)))) rfl rfl ?_
 refine (Ca (z9z _ (zgK _))) ?_
 refine z6 (congrArg fe (Y3 (z5e (pnt g) (sec f)) (y9 (VM _ _)))) ?_
 refine (Ca (z7m _ (VM _ _)))<|(gi)<|(QH 5) fun r6=>(Qt 5)<|(g3)<|Qs<|(Qq ⟨[r3], 1, [], none, none⟩) ?_
 refine zV (i := 5) (Uu 23) rfl (Uz 23) rfl rfl (zd _ _ _) rfl ⟨[2], rfl, rfl, trivial⟩ ?_
 refine zV (i := 5) (Uu 23) rfl (Uz 23) rfl rfl (zd _ _ _) rfl ⟨[2], rfl, rfl, trivial⟩ ?_
 refine wo (Ub 23 rfl) (Uu 23 rfl) z5u rfl ?_
 refine W2 (Uu 23) (Uu 5) (Uz 5) zkz rfl rfl rfl ?_
 refine z6 (congrArg (fun z => Value.bool (!z)) (z8V (VM _ _))) ?_
 refine z4 (i := 2) (Uz 30) rfl rfl (zd _ _ _) zU rfl (yg _ _ _ _ _) (.inr (by simp)) ?_
 refine (gt) ?_
 exact ⟨_, _, rfl, ya 2, yt⟩
theorem z0g (hI : IVB ∈ G) (hP : (⟨2, arr .u64 16 (d16 PP), 120⟩ : Blk) ∈ G) (b : LN) (l : Bool) (vp v0 v1 vt : Value) (fi : Bool) (tn : Int) (dd : Bool) (y : SY) (r : RS) (ow : NN) (vk : Value) (us : Nat) (ps : List (NN)) (hk : Shows G 32 vk ps.length (psC ps)) (hp : okP ps) (h1 : xl vp v0 v1 vt vk) (hy : okY y) (hr : okR r) (ho : B32 ow) (t : Nat) (w : Nat × SS) (hw : xM fi ow ps t (y, r, us) = w) : Fp G 34 #[.agg (shC b l vp v0 v1 vt fi tn dd y ow r vk ((us : Nat) : Int)), ii t] (.tuple #[.agg (shC b l vp v0 v1 vt fi tn dd w.2.1 ow w.2.2.1 vk ((w.2.2.2 : Nat) : Int)), ii w.1]) := by
 have hpl := hp.2
 obtain ⟨fs, hfs⟩ : ∃ z, z = YB fi ow r t := ⟨_, rfl⟩
 obtain ⟨fp, hfp⟩ : ∃ z, z = Ze fi r t := ⟨_, rfl⟩
 obtain ⟨bs, hbs⟩ : ∃ z, z = (XC fi r t && Yb fi r t) := ⟨_, rfl⟩
 have hls : B32 fs := by rw [hfs]; exact z3g ho hr
 have hlp : B32 fp := by rw [hfp]; exact z3y hr
 obtain ⟨mk, hmk⟩ : ∃ z, z = z5g fs fp := ⟨_, rfl⟩
 have hN : t ≠ 7 → bs = false → w = (5, (y, r, us)) := fun h7 h => by rw [← hw]; exact WT h7 (by rw [← hbs]; exact h)
 have hZ : t ≠ 7 → ¬ bs = false → mk = 0 → w = (12, (y, r, us)) := fun h7 h hz => by rw [← hw]; exact Ws h7 (by rw [← hbs]; exact h) (by rw [← hfs, ← hfp, ← hmk]; exact hz)
 have hK : t ≠ 7 → ¬ bs = false → ¬ mk = 0 → w = (0, Xi y (ky (bt mk)), r, us) := fun h7 h hz => by rw [← hw]; exact (z3M h7 (by rw [← hbs]; exact h) (by rw [← hfs, ← hfp, ← hmk]; exact hz)).trans (by rw [← hfs, ← hfp, ← hmk])
 refine Qf2 Tryz.func34 ?_
 refine (g4)<|(Qh 0) fun r1=>(QH 1) fun r2=>(g3)<|(ge)<|(Qc)<|Qn ?_
 refine zh rfl ?_ ?_
 ·intro hc0
  obtain rfl : t = 7 := by have := of_decide_eq_true hc0; omega
  refine (gs)<|(Qf 239)<|(QV 22 0)<|(Qf 238)<|(QV 21 0)<|(QC hk)<|(QE)<|Qn ?_
  refine (Qcd) (fun hc1=>?_) fun hc1=>?_
  ·obtain rfl : w = (5, (y, r, us)) := by rw [← hw]; exact Vp (by omega)
   refine (gc) ?_
   refine z4 (i := 1) (Uz 37) rfl rfl (z3 _ _) (ze h1) rfl z7 (.inl rfl) ?_
   refine (gt) ?_
   exact ⟨_, _, rfl, yb 1, yt⟩
  ·obtain ⟨y2, hy2⟩ : ∃ y2, y2 = z5f y (ky (ZD ps us)) := ⟨_, rfl⟩
   obtain rfl : w = (0, y2, r, us + 1) := by rw [← hw, hy2]; exact z62 (by omega)
   refine Qk<|(gr)<|(gz) ?_
   refine (Av (SVy y))<|(Qf 238)<|(QV 21 0)<|(Qf 239)<|(QV 22 0) ?_
   refine yf hk (Uu 24) (Uz 30) rfl rfl (by omega) rfl ?_
   refine wz hk za (Uu 30) rfl (Uz 30) rfl (by decide) (by rw [xc vI]; omega) (z37 (by omega)) rfl ?_
   refine z6 (congrArg Value.agg (XK _)) ?_
   refine (Ca (xK (ZD ps us))) ?_
   refine (Ca ((z7j (G := G) y.1 y.2.1 y.2.2.1 y.2.2.2.1 y.2.2.2.2 (ky (ZD ps us)) (ZH (z5J hp (by omega))) (by simp) hy.2.2.1 hy.2.2.2).more (in1 hI))) ?_
   refine z6 (show _ = SVy y2 by rw [hy2]; rfl) ?_
   refine (j1) ?_
   refine ye (c' := shC b l vp v0 v1 vt fi tn dd y2 ow r vk ((us : Nat) : Int)) rfl ?_
   refine (gl)<|(Qf 239)<|(QV 22 0)<|(Q2 1)<|(Qf 239)<|(QtV 0 22) ?_
   refine ye (c' := shC b l vp v0 v1 vt fi tn dd y2 ow r vk ((us + 1 : Nat) : Int)) rfl ?_
   refine Qn<|(gc) ?_
   refine z4 (i := 1) (Uz 37) rfl rfl (z3 _ _) (ze h1) rfl z7 (.inl rfl) ?_
   refine (gt) ?_
   exact ⟨_, _, rfl, yb 1, yt⟩
 ·intro hc0
  have h7 : t ≠ 7 := by have := of_decide_eq_false hc0; omega
  refine Qk<|(gc)<|(Qm) ?_
  refine (Ca (zbZ b l vp v0 v1 vt fi tn dd y r ow vk ((us : Nat) : Int) t)) ?_
  refine z6 (show _ = Value.tuple #[.agg (arr .u8 32 fs), .agg (arr .u8 32 fp), .bool bs] by rw [hfs, hfp, hbs]) ?_
  refine (jk)<|(QH 2) fun r3=>(QH 3) fun r4=>(Qt 2)<|(Qt 3)<|(g3)<|(ge)<|(Q0)<|Qn ?_
  refine zh rfl ?_ ?_
  ·intro hc2
   have hn1 : bs = false := by cases bs; rfl; cases hc2
   obtain rfl := hN h7 hn1
   refine (gc) ?_
   refine z4 (i := 1) (Uz 37) rfl rfl (z3 _ _) (ze h1) rfl z7 (.inl rfl) ?_
   refine (gt) ?_
   exact ⟨_, _, rfl, yb 1, yt⟩
  ·intro hc2
   have hn1 : ¬ bs = false := by cases bs; cases hc2; decide
   refine Qk<|(g4)<|(Qd 2)<|(Qd 3) ?_
   refine (Ca ((zdZ (G := G) fs fp hls hlp).more (in1 hP))) ?_
   refine z6 (show _ = Value.tuple #[Value.agg (arr .u8 32 (bt mk)), .bool (!decide (mk = 0))] by rw [hmk]; rfl) ?_
   refine (gi)<|(QH 4) fun r5=>(Qt 4)<|(g3)<|(ge)<|(Q0)<|Qn ?_
   refine zh rfl ?_ ?_
   ·intro hc3
    have hz1 : mk = 0 := by simpa using hc3
    obtain rfl := hZ h7 hn1 hz1
    refine (gc) ?_
    refine z4 (i := 1) (Uz 37) rfl rfl (z3 _ _) (ze h1) rfl z7 (.inl rfl) ?_
    refine (gt) ?_
    exact ⟨_, _, rfl, yb 1, yt⟩
   ·intro hc3
    have hz1 : ¬ mk = 0 := by simpa using hc3
    obtain ⟨y2, hy2⟩ : ∃ y2, y2 = Xi y (ky (bt mk)) := ⟨_, rfl⟩
    obtain rfl : w = (0, y2, r, us) := by rw [hy2]; exact hK h7 hn1 hz1
    refine Qk<|(gr)<|(gz) ?_
    refine (Av (SVy y))<|(Qd 4) ?_
    refine (Ca (xK (bt mk))) ?_
    refine (Ca ((z1Q (G := G) y.1 y.2.1 y.2.2.1 y.2.2.2.1 y.2.2.2.2 (ky (bt mk)) (ZH (zj6 mk)) (by simp) hy.2.2.1).more (in1 hI))) ?_
    refine z6 (show _ = SVy y2 by rw [hy2]; rfl) ?_
    refine (j1) ?_
    refine ye (c' := shC b l vp v0 v1 vt fi tn dd y2 ow r vk ((us : Nat) : Int)) rfl ?_
    refine Qn<|(gc) ?_
    refine z4 (i := 1) (Uz 37) rfl rfl (z3 _ _) (ze h1) rfl z7 (.inl rfl) ?_
    refine (gt) ?_
    exact ⟨_, _, rfl, yb 1, yt⟩
theorem z17 (v : Value) (vs : List Value) (ls : List (List Int)) (hv : Shows G 1 v vs.length vs) (hL : zm G vs ls) (hn : vs.length ≤ 1000000) : Fp G 93 #[v] (ii (zZ ls)) := by
 have hvl := hL.1
 refine Qf1 Tryz.func93 ?_
 refine (gd)<|(ge)<|(QC hv)<|(Qm)<|Qn<|Qb ?_
 refine QzK [(7, _), (8, _)] [] (fun kk E m => ∃ (i : Nat), kk = vs.length - i ∧ E = [(9, ii i)] ∧ m = [] ∧ (i ≤ vs.length) ∧ (∀ q, q < i → (ls.getD q []).length ≤ 6 ∧ (ls.getD q []).any xk = false)) ⟨0, rfl, rfl, rfl, by omega, fun _ h => absurd h (Nat.not_lt_zero _)⟩ ⟨rfl, rfl, rfl, trivial⟩ trivial ?_
 rintro kk E m ⟨i, rfl, rfl, rfl, hf0_0, hf0_1⟩
 simp only [zo, zu]
 refine (gq) ?_
 refine (Qcd) (fun hc0=>?_) fun hc0=>?_
 ·have hc0 : i < vs.length := by omega
  refine Qk<|Qs<|Qb<|(g4) ?_
  refine yf hv (Uu 27) (Uz 25) rfl rfl (by omega) rfl ?_
  refine (QS) ?_
  refine zR hv za (Uu 25) rfl rfl (xA (by omega)) rfl ?_
  refine (g3)<|(ge)<|(QC (hL.2 i (by omega)))<|(QG)<|Qn ?_
  refine (Qcd) (fun hc1=>?_) fun hc1=>?_
  ·rw [ZF (by omega) hf0_1, zZ, if_pos (by omega)]
   refine (j4) ?_
   first | rw [wg (fun q hq => hf0_1 q (by omega))] | skip
   exact ⟨_, rfl, yt⟩
  ·refine Qk<|Qs<|Qp<|(Qm)<|(QC (hL.2 i (by omega)))<|(Qm)<|Qn<|Qb ?_
   refine QzK [(7, _), (8, _), (9, _), (16, _), (17, _)] [] (fun kk E m => ∃ (j : Nat), kk = (ls.getD i []).length - j ∧ E = [(18, ii j)] ∧ m = [] ∧ (j ≤ (ls.getD i []).length) ∧ (∀ p, p < j → xk ((ls.getD i []).getD p 0) = false)) ⟨0, rfl, rfl, rfl, by omega, fun _ h => absurd h (Nat.not_lt_zero _)⟩ ⟨rfl, rfl, rfl, rfl, rfl, rfl, trivial⟩ trivial ?_
   rintro kk E m ⟨j, rfl, rfl, rfl, hf1_0, hf1_1⟩
   simp only [zo, zu]
   refine (gq) ?_
   refine (Qcd) (fun hc2=>?_) fun hc2=>?_
   ·have hc2 : j < (ls.getD i []).length := by omega
    refine Qk<|Qs<|Qb<|(g4) ?_
    refine yf (hL.2 i (by omega)) (Uu 25) (Uz 3) rfl rfl (by omega) rfl ?_
    refine (QS) ?_
    refine zR (hL.2 i (by omega)) za (Uu 3) rfl rfl (z8u (by omega)) rfl ?_
    refine (j9) ?_
    refine yd [(6, _), (7, _), (8, _), (9, _), (16, _), (17, _), (18, _), (19, _), (20, _), (21, _)] [(27, .bool (xk ((ls.getD i []).getD j 0)))] [] ⟨rfl, rfl, rfl, rfl, rfl, rfl, rfl, rfl, rfl, rfl, trivial⟩ trivial ?_ ?_
    ·skip
     refine (Qm)<|(Ql)<|(Qm) ?_
     refine zn (b := decide ((ls.getD i []).getD j 0 < 1)) (fun hb0 => ?_) (fun hb0 => ?_)
     ·skip
      refine (g5)<|(QT)<|Qn ?_
      exact ⟨⟨rfl, rfl, rfl, rfl, rfl, rfl, rfl, rfl, rfl, rfl, trivial⟩, ⟨z5 (by rw [xk, hb0] <;> rfl), trivial⟩, trivial⟩
     ·skip
      refine (Qy)<|(g7)<|(QG)<|(QF)<|Qn ?_
      exact ⟨⟨rfl, rfl, rfl, rfl, rfl, rfl, rfl, rfl, rfl, rfl, trivial⟩, ⟨z5 (by rw [xk, hb0] <;> rfl), trivial⟩, trivial⟩
    ·simp only [zo]
     refine zh rfl ?_ ?_
     ·intro hc3
      rw [ZF (by omega) hf0_1, zZ, if_neg (by omega), zg5 (by omega) hc3, if_pos rfl]
      refine (j4) ?_
      first | rw [wg (fun q hq => hf0_1 q (by omega))] | skip
      exact ⟨_, rfl, yt⟩
     ·intro hc3
      have hcf := hc3
      refine Qk<|(gk) ?_
      refine QzL ⟨j + 1, rfl, rfl, rfl, by omega, fun p h => by by_cases e : p = j; (subst e; exact hcf); exact hf1_1 p (by omega)⟩ ⟨rfl, rfl, rfl, rfl, rfl, rfl, trivial⟩ trivial ?_
      omega
   ·have hz1 : j = (ls.getD i []).length := by omega
    refine Qe<|(gk) ?_
    refine QzL ⟨i + 1, rfl, rfl, rfl, by omega, fun q h => by by_cases e : q = i; (subst e; exact ⟨by omega, z6h (fun p hp => hf1_1 p (by omega))⟩); exact hf0_1 q (by omega)⟩ ⟨rfl, rfl, rfl, trivial⟩ trivial ?_
    omega
 ·have hz0 : i = vs.length := by omega
  refine Qe<|(j4) ?_
  first | rw [wg (fun q hq => hf0_1 q (by omega))] | skip
  exact ⟨_, rfl, yt⟩
theorem z7w (base : LN) (late : Bool) (vp v0 v1 vt : Value) (tvs : List Value) (hvt : Shows G 1 vt tvs.length tvs) (h : tvs.length = 0) : Fp G 54 #[.agg (cells 6 [pV (sv base), pV (.bool late), pV vp, pV v0, pV v1, pV vt])] (ii 1) := by
 refine Qf1 Tryz.func54 ?_
 refine (g4)<|(Qh 0) fun r1=>(g3)<|(gs)<|(jd)<|(QC hvt)<|(Qc)<|(Qat)<|(j6)<|(QT)<|(gu)<|(j4) ?_
 exact ⟨_, rfl, yt⟩
theorem z7h (base : LN) (late : Bool) (vp v0 v1 vt : Value) (tvs : List Value) (hvt : Shows G 1 vt tvs.length tvs) (h : 5 < tvs.length) : Fp G 54 #[.agg (cells 6 [pV (sv base), pV (.bool late), pV vp, pV v0, pV v1, pV vt])] (ii 1) := by
 refine Qf1 Tryz.func54 ?_
 refine (g4)<|(Qh 0) fun r1=>(g3)<|(gs)<|(jd)<|(QC hvt)<|(Qc)<|(Qaf)<|(g7)<|(Qf 5)<|(Qy)<|(QV 5 0)<|(Qy)<|(QC hvt)<|(Qy)<|(QG)<|(Qat)<|(QF)<|(gu)<|(j4) ?_
 exact ⟨_, rfl, yt⟩
theorem z64 (base : LN) (late : Bool) (vp v0 v1 vt : Value) (tvs : List Value) (p0 p1 : List Int) (ts : List (List Int)) (f : Nat) (hvt : Shows G 1 vt tvs.length tvs) (hLI : zm G (v0 :: v1 :: tvs) (p0 :: p1 :: ts)) (hn1 : 1 ≤ tvs.length) (hn5 : tvs.length ≤ 5) (hf : zZ (p0 :: p1 :: ts) = f) (hf0 : f ≠ 0) : Fp G 54 #[.agg (cells 6 [pV (sv base), pV (.bool late), pV vp, pV v0, pV v1, pV vt])] (ii f) := by
 have hT := zr (zr hLI)
 have hv0 : Shows G 1 v0 p0.length (p0.map iv) := hLI.2 0 (by simp)
 have hv1 : Shows G 1 v1 p1.length (p1.map iv) := hLI.2 1 (by simp)
 refine Qf1 Tryz.func54 ?_
 refine (g4)<|(Qh 0) fun r1=>(g3)<|(gs)<|(jd)<|(QC hvt)<|(Qc)<|(Qaf)<|(g7)<|(Qf 5)<|(Qy)<|(QV 5 0)<|(Qy)<|(QC hvt)<|(Qy)<|(QG)<|(Qaf)<|(QF)<|(gn)<|(gd)<|(gs)<|(Qf 3)<|(QA 3 0)<|(QV 3 0)<|(Qf 3)<|(QA 4 1)<|(QV 4 0) ?_
 refine yl 1 #[v0, v1] (Uu 27 rfl) (Uz 25 rfl) (Ub 25 rfl) (by decide) (by decide) rfl (xL [v0, v1] 0 _ (by intro v hv; simp only [List.mem_cons, List.not_mem_nil, or_false] at hv; rcases hv with rfl | rfl; exact yk hv0; exact yk hv1) (by simp)) rfl fun r2 => ?_
 refine (jd) ?_
 refine yQ 1 z9j hvt rfl za (Uu 27) (Uz 25) (Uy 25) (Ub 25) (by rfl) rfl rfl (z04 hT) (by simp only [maxLen]; omega) (by omega) rfl fun v2_1 oz2_1 ho2_1 => ?_
 refine zi rfl rfl (Un 93) (zf (zH 1 rfl ⟨[], trivial⟩) za) (z17 (G := oz2_1.toList ++ G) _ (v0 :: v1 :: tvs) (p0 :: p1 :: ts) (Shows.mono (OwnS.shows (zw ho2_1 (show _ = (v0 :: v1 :: tvs).length by simp; omega) rfl)) (fun x h => List.mem_append_left _ h)) (yI hLI (fun x h => List.mem_append_right _ h)) (by simp; omega)) rfl rfl ?_
 refine (Ai hf)<|(jr)<|(Qat)<|(gu)<|(g6)<|(gt) ?_
 exact ⟨_, rfl, yt⟩
theorem zE (v : Value) (l : List Ev) (who tok : Int) (hv : Shows G 2 v l.length (l.flatMap evC)) (hl : l.length ≤ 1000000) : Fp G 94 #[v, .int .i64 who, .int .i64 tok] (.bool (hap l who tok)) := by
 refine Qf1 Tryz.func94 ?_
 refine (gd)<|(ge)<|(QC hv)<|(Qm)<|Qn<|Qb ?_
 refine QzK [(1, _), (2, _), (9, _), (10, _)] [] (fun kk E m => ∃ (i : Nat), kk = l.length - i ∧ E = [(11, ii i)] ∧ m = [] ∧ (i ≤ l.length) ∧ (∀ j (hj : j < l.length), j < i → hit who tok l[j] = false)) ⟨0, rfl, rfl, rfl, by omega, fun _ _ h => absurd h (Nat.not_lt_zero _)⟩ ⟨rfl, rfl, rfl, rfl, rfl, trivial⟩ trivial ?_
 rintro kk E m ⟨i, rfl, rfl, rfl, hf0_0, hf0_1⟩
 simp only [zo, zu]
 refine (gq) ?_
 refine (Qcd) (fun hc0=>?_) fun hc0=>?_
 ·have hc0 : i < l.length := by omega
  refine Qk<|Qs<|Qb<|(g4) ?_
  refine yf hv (Uu 138) (Uz 141) rfl rfl (by omega) rfl ?_
  refine wz hv za (Uu 141) rfl (Uz 141) rfl (by decide) (by rw [ziT]; omega) (zkZ (by omega)) rfl ?_
  refine z6 (congrArg Value.agg (zh3 l[i])) ?_
  refine (QH 0) fun r1=>(Qt 0)<|(gl) ?_
  refine yd [(1, _), (2, _), (8, _), (9, _), (10, _), (11, _), (12, _), (13, _), (14, _)] [(28, .bool (hit who tok l[i]))] [(0, some _)] ⟨rfl, rfl, rfl, rfl, rfl, rfl, rfl, rfl, rfl, trivial⟩ ⟨rfl, trivial⟩ ?_ ?_
  ·skip
   refine (Qf 1)<|(Q1 0)<|(Qm)<|(Qc)<|(Qm) ?_
   refine zn (b := decide ((l[i].2 : Int) = tok)) (fun hb0 => ?_) (fun hb0 => ?_)
   ·skip
    refine (Qy)<|(g7)<|(Ql)<|(Qy)<|(Qm) ?_
    refine zn (b := decide (who < 0)) (fun hb1 => ?_) (fun hb1 => ?_)
    ·skip
     refine (gg)<|(Qy)<|(QT)<|(QT)<|Qn ?_
     exact ⟨⟨rfl, rfl, rfl, rfl, rfl, rfl, rfl, rfl, rfl, trivial⟩, ⟨z5 (by simp [hit, hb0, hb1]), trivial⟩, ⟨rfl, trivial⟩⟩
    ·skip
     refine (Qy)<|(Qf 0)<|(Qy)<|(Q1 0) ?_
     refine (Av (ii l[i].1))<|(Qy)<|(g7)<|(Qc)<|(Qy)<|(QF)<|(QT)<|Qn ?_
     exact ⟨⟨rfl, rfl, rfl, rfl, rfl, rfl, rfl, rfl, rfl, trivial⟩, ⟨z5 (by simp [hit, hb0, hb1]), trivial⟩, ⟨rfl, trivial⟩⟩
   ·skip
    refine (gx)<|(Qw)<|(Qw)<|(Qw)<|(Qw)<|(Qo)<|(QF)<|Qn ?_
    exact ⟨⟨rfl, rfl, rfl, rfl, rfl, rfl, rfl, rfl, rfl, trivial⟩, ⟨z5 (by simp [hit, hb0]), trivial⟩, ⟨rfl, trivial⟩⟩
  ·simp only [zo]
   refine zh rfl ?_ ?_
   ·intro hc1
    rw [zgd (by omega) hc1]
    refine (j4) ?_
    first | rw [z5E (fun j hj => hf0_1 j hj (by omega))] | skip
    exact ⟨_, rfl, yt⟩
   ·intro hc1
    have hcf := hc1
    refine Qk<|(gk) ?_
    refine QzL ⟨i + 1, rfl, rfl, rfl, by omega, fun j hj h => by by_cases e : j = i; (subst e; exact hcf); exact hf0_1 j hj (by omega)⟩ ⟨rfl, rfl, rfl, rfl, rfl, trivial⟩ trivial ?_
    omega
 ·have hz0 : i = l.length := by omega
  refine Qe<|(j4) ?_
  first | rw [z5E (fun j hj => hf0_1 j hj (by omega))] | skip
  exact ⟨_, rfl, yt⟩
theorem vQ (r : Nat) (v : Value) (l : List Ev) (t : Int) (hv : Shows G 2 v l.length (l.flatMap evC)) (hl : l.length ≤ 1000000) : Fp ((⟨r, v.cells, 138⟩ : Blk) :: G) 134 #[.int .i64 t, ptr r] (.bool (hap l (-1) t)) := by
 refine Qf1 Tryz.func134 ?_
 refine (gd)<|(g4) ?_
 refine yo (i := 0) (Uu 138) rfl rfl rfl (z57 (yk hv)) rfl ?_
 refine (Qm) ?_
 refine (Ca (zE v l (-1) t (hv.mono (fun x h => List.mem_cons_of_mem _ h)) hl))<|(gt) ?_
 exact ⟨_, rfl, yt⟩
theorem z0R (v : Value) (l : List Ev) (who : Int) (hv : Shows G 2 v l.length (l.flatMap evC)) (hl : l.length ≤ 1000000) : Fp G 95 #[v, .int .i64 who] (.bool (mlock l who)) := by
 refine Qf1 Tryz.func95 ?_
 refine (g4)<|(Qh 0) fun r1=>(j9)<|(QY)<|(g3)<|(gs) ?_
 refine yd [(0, _), (1, _), (2, _), (4, _), (5, _), (8, _)] [(16, .bool (hap l (-1) 7 && !(hap l who 1)))] [(0, some _)] ⟨rfl, rfl, rfl, rfl, rfl, rfl, trivial⟩ ⟨rfl, trivial⟩ ?_ ?_
 ·skip
  refine (Qm) ?_
  refine zi rfl rfl (Un 134) (wH 0 rfl) (vQ r1 v l 7 hv hl) rfl rfl ?_
  refine (Qm) ?_
  refine zn (b := hap l (-1) 7) (fun hb0 => ?_) (fun hb0 => ?_)
  ·skip
   refine (Qy) ?_
   refine y6 (i := 0) (Uu 138) rfl rfl rfl (z57 (yk hv)) rfl ⟨[], trivial⟩ ?_
   refine (Qy)<|(g7) ?_
   refine (Ca (zE v l who 1 hv hl))<|(Qy)<|(Q0)<|(QT)<|Qn ?_
   exact ⟨⟨rfl, rfl, rfl, rfl, rfl, rfl, trivial⟩, ⟨z5 (by simp [hb0]), trivial⟩, ⟨rfl, trivial⟩⟩
  ·skip
   refine (gg)<|(QF)<|Qn ?_
   exact ⟨⟨rfl, rfl, rfl, rfl, rfl, rfl, trivial⟩, ⟨z5 (by simp [hb0]), trivial⟩, ⟨rfl, trivial⟩⟩
 ·simp only [zo]
  refine zh rfl ?_ ?_
  ·intro hc0
   rw [show mlock l who = false by rw [mlock, hc0]; rfl]
   refine (j4) ?_
   exact ⟨_, rfl, yt⟩
  ·intro hc0
   have hm : mlock l who = ((!(hap l (-1) (vn who)) || hap l (-1) 3) && (!(hap l (-1) 6) || hap l (-1) (ve who))) := by rw [mlock, hc0]; rfl
   rw [hm]
   refine Qk<|(g4)<|(j3)<|(Qc)<|Qn ?_
   refine Yw [(0, _), (1, _), (2, _), (4, _), (5, _), (8, _), (16, _), (17, _), (18, _)] [(6, ii (vn who)), (7, ii (ve who))] [(0, some _)] ⟨rfl, rfl, rfl, rfl, rfl, rfl, rfl, rfl, rfl, trivial⟩ ⟨rfl, trivial⟩ ?_ ?_
   ·skip
    refine (Qcd) (fun hc1=>?_) fun hc1=>?_
    ·refine Qp<|(Qa)<|(Qa)<|Qn ?_
     exact ⟨⟨rfl, rfl, rfl, rfl, rfl, rfl, rfl, rfl, rfl, trivial⟩, ⟨(by first | rw [vn, if_pos (by assumption)]; rfl | rw [vn, if_neg (by assumption)]; rfl), (by first | rw [ve, if_pos (by assumption)]; rfl | rw [ve, if_neg (by assumption)]; rfl), trivial⟩, ⟨rfl, trivial⟩⟩
    ·refine Qk ?_
     exact ⟨⟨rfl, rfl, rfl, rfl, rfl, rfl, rfl, rfl, rfl, trivial⟩, ⟨(by first | rw [vn, if_pos (by assumption)]; rfl | rw [vn, if_neg (by assumption)]; rfl), (by first | rw [ve, if_pos (by assumption)]; rfl | rw [ve, if_neg (by assumption)]; rfl), trivial⟩, ⟨rfl, trivial⟩⟩
   ·simp only [zo]
    refine (g4) ?_
    refine yd [(0, _), (1, _), (2, _), (5, _), (6, _), (7, _), (8, _), (16, _), (17, _), (18, _)] [(4, .bool ((!(hap l (-1) (vn who)) || hap l (-1) 3) && (!(hap l (-1) 6) || hap l (-1) (ve who))))] [(0, some _)] ⟨rfl, rfl, rfl, rfl, rfl, rfl, rfl, rfl, rfl, rfl, trivial⟩ ⟨rfl, trivial⟩ ?_ ?_
    ·skip
     refine (gb) ?_
     refine zi rfl rfl (Un 134) (wH 0 rfl) (vQ r1 v l (vn who) hv hl) rfl rfl ?_
     refine (Q0)<|(Qm) ?_
     refine zn (b := !(hap l (-1) (vn who))) (fun hb1 => ?_) (fun hb1 => ?_)
     ·skip
      refine (g5)<|(QT)<|(gm) ?_
      refine zi rfl rfl (Un 134) (wH 0 rfl) (vQ r1 v l 6 hv hl) rfl rfl ?_
      refine (Qy)<|(Q0)<|(Qy)<|(Qm) ?_
      refine zn (b := !(hap l (-1) 6)) (fun hb2 => ?_) (fun hb2 => ?_)
      ·skip
       refine (gx)<|(Qy)<|(QT)<|(QT)<|(g3) ?_
       exact ⟨⟨rfl, rfl, rfl, rfl, rfl, rfl, rfl, rfl, rfl, rfl, trivial⟩, ⟨z5 (by simp [hb1, hb2]), trivial⟩, ⟨rfl, trivial⟩⟩
      ·skip
       refine (Qy)<|(gm) ?_
       refine zi rfl rfl (Un 134) (wH 0 rfl) (vQ r1 v l (ve who) hv hl) rfl rfl ?_
       refine (Qy)<|(QF)<|(QT)<|(g3) ?_
       exact ⟨⟨rfl, rfl, rfl, rfl, rfl, rfl, rfl, rfl, rfl, rfl, trivial⟩, ⟨z5 (by simp [hb1, hb2]), trivial⟩, ⟨rfl, trivial⟩⟩
     ·skip
      refine (Qy)<|(g7) ?_
      refine zi rfl rfl (Un 134) (wH 0 rfl) (vQ r1 v l 3 hv hl) rfl rfl ?_
      refine (QF)<|(Qm) ?_
      refine zn (b := hap l (-1) 3) (fun hb3 => ?_) (fun hb3 => ?_)
      ·skip
       refine (Qy)<|(g7) ?_
       refine zi rfl rfl (Un 134) (wH 0 rfl) (vQ r1 v l 6 hv hl) rfl rfl ?_
       refine (Qy)<|(Q0)<|(Qy)<|(Qm) ?_
       refine zn (b := !(hap l (-1) 6)) (fun hb4 => ?_) (fun hb4 => ?_)
       ·skip
        refine (gx)<|(Qy)<|(QT)<|(QT)<|(g3) ?_
        exact ⟨⟨rfl, rfl, rfl, rfl, rfl, rfl, rfl, rfl, rfl, rfl, trivial⟩, ⟨z5 (by simp [hb1, hb3, hb4]), trivial⟩, ⟨rfl, trivial⟩⟩
       ·skip
        refine (Qy)<|(gm) ?_
        refine zi rfl rfl (Un 134) (wH 0 rfl) (vQ r1 v l (ve who) hv hl) rfl rfl ?_
        refine (Qy)<|(QF)<|(QT)<|(g3) ?_
        exact ⟨⟨rfl, rfl, rfl, rfl, rfl, rfl, rfl, rfl, rfl, rfl, trivial⟩, ⟨z5 (by simp [hb1, hb3, hb4]), trivial⟩, ⟨rfl, trivial⟩⟩
      ·skip
       refine (gg)<|(Qw)<|(Qw)<|(Qw)<|(Qo)<|(QF)<|(g3) ?_
       exact ⟨⟨rfl, rfl, rfl, rfl, rfl, rfl, rfl, rfl, rfl, rfl, trivial⟩, ⟨z5 (by simp [hb1, hb3]), trivial⟩, ⟨rfl, trivial⟩⟩
    ·simp only [zo]
     refine Qr ?_
     exact ⟨_, rfl, yt⟩
theorem z6C (base : LN) (late : Bool) (vp v0 v1 vt : Value) (tvs : List Value) (q0 q1 : LN) (us : List (LN)) (hvt : Shows G 1 vt tvs.length tvs) (hLI : zm G (v0 :: v1 :: tvs) (ci q0 :: ci q1 :: us.map ci)) (hn1 : 1 ≤ tvs.length) (hn5 : tvs.length ≤ 5) (hf : zZ (ci q0 :: ci q1 :: us.map ci) = 0) (h06 : q0.length ≤ 6) (h16 : q1.length ≤ 6) (hu6 : ∀ u ∈ us, u.length ≤ 6) : Fp G 54 #[.agg (cells 6 [pV (sv base), pV (.bool late), pV vp, pV v0, pV v1, pV vt])] (ii (z1t (evL late q0 q1 us))) := by
 have hT := zr (zr hLI)
 have hv0 := VD hLI
 have hv1 := VD (zr hLI)
 have hvq := z2u hv0 hv1
 have htl : tvs.length = us.length := by have := hT.1; rwa [List.length_map] at this
 have hr7 := zdx (late := late) h06 h16 hu6
 obtain ⟨L, hL⟩ : ∃ L, L = evL late q0 q1 us := ⟨_, rfl⟩
 have hLl : L.length = 2 + us.length := by rw [hL]; exact z8M
 have hLa : ∀ a, a < 2 → L.getD a [] = (qq q0 q1 a).map (fun x => (a, x)) := fun a ha => by rw [hL]; exact z8Z ha
 have hLt : ∀ i, i < us.length → L.getD (2 + i) [] = (us.getD i [] ++ [0]).map (fun x => (xQ late i, x)) := fun i hi => by rw [hL]; exact z5t hi
 rw [← hL] at hr7 ⊢
 have hle := zfO hr7
 have hq6 : ∀ a, (qq q0 q1 a).length ≤ 6 := fun a => by unfold qq; split <;> assumption
 have hug : ∀ i, i < us.length → (us.getD i []).length ≤ 6 := fun i hi => hu6 _ (by rw [List.getD_eq_getElem?_getD, List.getElem?_eq_getElem hi]; exact List.getElem_mem hi)
 refine Qf1 Tryz.func54 ?_
 refine (g4)<|(Qh 0) fun r1=>(g3)<|(gs)<|(jd)<|(QC hvt)<|(Qc)<|(Qaf)<|(g7)<|(Qf 5)<|(Qy)<|(QV 5 0)<|(Qy)<|(QC hvt)<|(Qy)<|(QG)<|(Qaf)<|(QF)<|(gn)<|(gd)<|(gs)<|(Qf 3)<|(QA 3 0)<|(QV 3 0)<|(Qf 3)<|(QA 4 1)<|(QV 4 0) ?_
 refine yl 1 #[v0, v1] (Uu 27 rfl) (Uz 25 rfl) (Ub 25 rfl) (by decide) (by decide) rfl (xL [v0, v1] 0 _ (by intro v hv; simp only [List.mem_cons, List.not_mem_nil, or_false] at hv; rcases hv with rfl | rfl; exact yk hv0; exact yk hv1) (by simp)) rfl fun r2 => ?_
 refine (jd) ?_
 refine yQ 1 z9j hvt rfl za (Uu 27) (Uz 25) (Uy 25) (Ub 25) (by rfl) rfl rfl (z04 hT) (by simp only [maxLen]; omega) (by omega) rfl fun v2_1 oz2_1 ho2_1 => ?_
 refine zi rfl rfl (Un 93) (zf (zH 1 rfl ⟨[], trivial⟩) za) (z17 (G := oz2_1.toList ++ G) _ (v0 :: v1 :: tvs) (ci q0 :: ci q1 :: us.map ci) (Shows.mono (OwnS.shows (zw ho2_1 (show _ = (v0 :: v1 :: tvs).length by simp; omega) rfl)) (fun x h => List.mem_append_left _ h)) (yI hLI (fun x h => List.mem_append_right _ h)) (by simp; omega)) rfl rfl ?_
 refine (Ai hf)<|(jr) ?_
 refine (Ab (decide_eq_false (by decide)))<|(gn)<|(jg) ?_
 refine QzK [(1, _)] [(0, _), (1, oz2_1)] (fun kk E m => ∃ (a : Nat) (w : Value) (oz : Option Blk), kk = 2 - a ∧ E = [(3, w), (39, ii a)] ∧ m = [(50, oz)] ∧ (a ≤ 2) ∧ (OwnS 141 2 w (zj L a 0).length ((zj L a 0).flatMap evC) (Option.toList oz)) ∧ (∀ s t, s < a → t < (L.getD s []).length → vK L s t = true)) ⟨0, y4, none, rfl, rfl, rfl, by omega, (zw (wT _ _) (by rw [Xf]; rfl) (by rw [Xf]; rfl)), fun _ _ h => absurd h (Nat.not_lt_zero _)⟩ ⟨rfl, rfl, rfl, trivial⟩ ⟨rfl, rfl, rfl, trivial⟩ ?_
 rintro kk E m ⟨a, w, oz, rfl, rfl, rfl, hf0_0, hf0_1, hf0_2⟩
 simp only [zo, zu]
 refine (gq) ?_
 refine (Qcd) (fun hc2=>?_) fun hc2=>?_
 ·have hc2 : a < 2 := by omega
  refine (jq)<|(go)<|(Qf 3)<|(QB (3 + a)) ?_
  refine y6 (i := 0) (Uu 25) rfl rfl rfl (zeg (by omega)) rfl ⟨[], trivial⟩ ?_
  refine (QC (hvq a (by omega)))<|(Qm)<|Qn<|Qb ?_
  refine QzK [(1, _), (5, _), (39, _), (45, _), (46, _)] [(0, _), (1, oz2_1)] (fun kk E m => ∃ (j : Nat) (w2 : Value) (oy : Option Blk), kk = (qq q0 q1 a).length - j ∧ E = [(3, w2), (47, ii j)] ∧ m = [(50, oy)] ∧ (j ≤ (qq q0 q1 a).length) ∧ (OwnS 141 2 w2 (zj L a j).length ((zj L a j).flatMap evC) (Option.toList oy)) ∧ (∀ t, t < j → vK L a t = true)) ⟨0, w, oz, rfl, rfl, rfl, by omega, hf0_1, fun _ h => absurd h (Nat.not_lt_zero _)⟩ ⟨rfl, rfl, rfl, rfl, rfl, rfl, rfl, trivial⟩ ⟨rfl, rfl, rfl, trivial⟩ ?_
  rintro kk E m ⟨j, w2, oy, rfl, rfl, rfl, hf1_0, hf1_1, hf1_2⟩
  simp only [zo, zu]
  have hqa := hq6 a
  have hlen : (zj L a j).length ≤ 1000000 := by have := hle a j; omega
  have hrow : zj L a (qq q0 q1 a).length = zj L (a + 1) 0 := by rw [← WO (by omega), hLa a (by omega), List.length_map]
  refine (gq) ?_
  refine (Qcd) (fun hc3=>?_) fun hc3=>?_
  ·have hc3 : j < (qq q0 q1 a).length := by omega
   refine Qk<|Qs<|Qb<|(g4) ?_
   refine yf (hvq a (by omega)) (Uu 25) (Uz 3) rfl rfl (by omega) rfl ?_
   refine (QS) ?_
   refine zR (hvq a (by omega)) za (Uu 3) rfl rfl (z02 (by omega)) rfl ?_
   refine VS fun x hx => ?_
   refine (g3) ?_
   have he : (L.getD a []).getD j (0, 0) = (a, x) := by rw [hLa a (by omega), z3x (by omega), hx]
   have hjl : j < (L.getD a []).length := by rw [hLa a (by omega), List.length_map]; omega
   have hok := zcU (by omega) he
   refine (gs) ?_
   refine yd [(1, _), (3, _), (5, _), (7, _), (39, _), (45, _), (46, _), (47, _), (48, _), (49, _), (50, _)] [(58, .bool (decide (2 < (x : Int)) || hap (zj L a j) a x))] [(0, some _), (1, oz2_1), (50, oy)] ⟨rfl, rfl, rfl, rfl, rfl, rfl, rfl, rfl, rfl, rfl, rfl, trivial⟩ ⟨rfl, rfl, rfl, trivial⟩ ?_ ?_
   ·skip
    refine (Qm)<|(QG)<|(Qm) ?_
    refine zn (b := decide (2 < (x : Int))) (fun hb0 => ?_) (fun hb0 => ?_)
    ·skip
     refine (gg)<|(QT)<|Qn ?_
     exact ⟨⟨rfl, rfl, rfl, rfl, rfl, rfl, rfl, rfl, rfl, rfl, rfl, trivial⟩, ⟨z5 (by rw [hb0] <;> rfl), trivial⟩, ⟨rfl, rfl, rfl, trivial⟩⟩
    ·skip
     refine (Qy)<|(gm)<|(g7) ?_
     refine zi rfl rfl (Un 94) (zH 50 rfl ⟨[], trivial⟩) (zE (G := Option.toList oy) w2 (zj L a j) a x hf1_1.shows hlen) rfl rfl ?_
     refine (QF)<|Qn ?_
     exact ⟨⟨rfl, rfl, rfl, rfl, rfl, rfl, rfl, rfl, rfl, rfl, rfl, trivial⟩, ⟨z5 (by rw [hb0] <;> rfl), trivial⟩, ⟨rfl, rfl, rfl, trivial⟩⟩
   ·simp only [zo]
    refine zh rfl ?_ ?_
    ·intro hc4
     rw [Xz (i := a) (j := j) (by omega) hjl (by rw [hok, hc4]; rfl)]
     refine (j4) ?_
     first | rw [YQ (fun s t hs ht => by by_cases h2 : s < 2; exact hf0_2 s t h2 ht; (obtain ⟨s, rfl⟩ : ∃ r, s = 2 + r := ⟨s - 2, by omega⟩); exact hf2_2 s t (by omega) (by rw [hLt s (by omega), List.length_map, List.length_append] at ht; simpa using ht))] | skip
     exact ⟨_, rfl, yt⟩
    ·intro hc4
     have hcf : vK L a j = true := by rw [hok, hc4]; rfl
     refine Qk<|Qp<|(gb)<|(Qm) ?_
     refine zC (arr .i64 2 (ev2 (a, x))) (Ub 141 rfl) (Uu 141 rfl) zeb rfl (by kernel_rfl) rfl ?_
     refine yl 2 (arr .i64 2 (ev2 (a, x))) (Uu 138 rfl) (Uz 141 rfl) (Ub 141 rfl) (by decide) (by decide) rfl (by kernel_rfl) rfl fun r3 => ?_
     refine yQ 50 hf1_1 (z5P _ _ (a, x)) rfl (ym 2 rfl ⟨[], trivial⟩) (Uu 138) (Uz 141) (Uy 141) (Ub 141) (by rfl) rfl rfl (zcb _) (by simp only [maxLen]; omega) (by omega) rfl fun v7_2 oz7_2 ho7_2 => ?_
     refine (jb) ?_
     refine QzL ⟨j + 1, _, _, rfl, rfl, rfl, by omega, (zw ho7_2 (by rw [ZN hjl, List.length_append, he]; rfl) (by rw [ZN hjl, ← z8f, he])), fun t ht => by by_cases e : t = j; (subst e; exact hcf); exact hf1_2 t (by omega)⟩ ⟨rfl, rfl, rfl, rfl, rfl, rfl, rfl, trivial⟩ ⟨rfl, rfl, rfl, trivial⟩ ?_
     omega
  ·have hz1 : j = (qq q0 q1 a).length := by omega
   refine Qe<|(gk) ?_
   refine QzL ⟨a + 1, _, _, rfl, rfl, rfl, by omega, (zw hf1_1 (by rw [hz1, hrow]) (by rw [hz1, hrow])), fun s t hs ht => by by_cases e : s = a; (subst e; rw [hLa s (by omega), List.length_map] at ht; exact hf1_2 t (by omega)); exact hf0_2 s t (by omega) ht⟩ ⟨rfl, rfl, rfl, trivial⟩ ⟨rfl, rfl, rfl, trivial⟩ ?_
   omega
 ·have hz0 : a = 2 := by omega
  subst hz0
  refine Qe<|(gs)<|(jd)<|(QC hvt)<|(Qm)<|Qn<|Qb ?_
  refine QzK [(1, _), (39, _), (68, _), (69, _)] [(0, _), (1, oz2_1)] (fun kk E m => ∃ (i : Nat) (w3 : Value) (ox : Option Blk), kk = tvs.length - i ∧ E = [(3, w3), (70, ii i)] ∧ m = [(50, ox)] ∧ (i ≤ tvs.length) ∧ (OwnS 141 2 w3 (zj L (2 + i) 0).length ((zj L (2 + i) 0).flatMap evC) (Option.toList ox)) ∧ (∀ s t, s < i → t < (us.getD s []).length + 1 → vK L (2 + s) t = true)) ⟨0, w, oz, rfl, rfl, rfl, by omega, hf0_1, fun _ _ h => absurd h (Nat.not_lt_zero _)⟩ ⟨rfl, rfl, rfl, rfl, rfl, rfl, trivial⟩ ⟨rfl, rfl, rfl, trivial⟩ ?_
  rintro kk E m ⟨i, w3, ox, rfl, rfl, rfl, hf2_0, hf2_1, hf2_2⟩
  simp only [zo, zu]
  refine (gq) ?_
  refine (Qcd) (fun hc5=>?_) fun hc5=>?_
  ·have hc5 : i < tvs.length := by omega
   refine (jq) ?_
   refine yf hvt (Uu 27) (Uz 25) rfl rfl (by omega) rfl ?_
   refine (QS) ?_
   refine zR hvt za (Uu 25) rfl rfl (xA (by omega)) rfl ?_
   refine (g8)<|(g6)<|(Q4 2)<|(g3)<|(gs)<|(Qf 1)<|(QV 1 0)<|Qn ?_
   refine Yw [(1, _), (3, _), (8, _), (9, _), (39, _), (68, _), (69, _), (70, _), (71, _), (72, _), (73, _), (74, _), (75, _), (76, _), (77, _), (78, _)] [(10, ii (xQ late i))] [(0, some _), (1, oz2_1), (50, ox)] ⟨rfl, rfl, rfl, rfl, rfl, rfl, rfl, rfl, rfl, rfl, rfl, rfl, rfl, rfl, rfl, rfl, trivial⟩ ⟨rfl, rfl, rfl, trivial⟩ ?_ ?_
   ·skip
    refine zh rfl ?_ ?_
    ·intro hc6
     have hcL := hc6
     refine (j0)<|(Q2 1)<|(Q4 2)<|(g3) ?_
     exact ⟨⟨rfl, rfl, rfl, rfl, rfl, rfl, rfl, rfl, rfl, rfl, rfl, rfl, rfl, rfl, rfl, rfl, trivial⟩, ⟨(by rw [xQ, hcL] <;> rfl), trivial⟩, ⟨rfl, rfl, rfl, trivial⟩⟩
    ·intro hc6
     have hcL := hc6
     refine Qk ?_
     exact ⟨⟨rfl, rfl, rfl, rfl, rfl, rfl, rfl, rfl, rfl, rfl, rfl, rfl, rfl, rfl, rfl, rfl, trivial⟩, ⟨(by rw [xQ, hcL] <;> rfl), trivial⟩, ⟨rfl, rfl, rfl, trivial⟩⟩
   ·simp only [zo]
    refine (g4) ?_
    refine vJ 2 (Uu 25 rfl) (Uz 3 rfl) rfl fun r3 => ?_
    refine (Qm) ?_
    refine yQ 2 Yo (ziy hT (by omega)) rfl za (Uu 25) (Uz 3) (Uy 3) (Ub 3) (by rfl) rfl rfl z0j (by have := hug i (by omega); simp only [maxLen]; omega) (by have := hug i (by omega); omega) rfl fun v6_2 oz6_2 ho6_2 => ?_
    refine yl 3 #[ii 0] (Uu 25 rfl) (Uz 3 rfl) (Ub 3 rfl) (by decide) (by decide) rfl (by kernel_rfl) rfl fun r4 => ?_
    refine yQ 2 ho6_2 (xp _ _ (by rfl)) rfl (ym 3 rfl ⟨[], trivial⟩) (Uu 25) (Uz 3) (Uy 3) (Ub 3) (by rfl) rfl rfl (by simp; rfl) (by have := hug i (by omega); simp only [maxLen]; omega) (by have := hug i (by omega); omega) rfl fun v6_3 oz6_3 ho6_3 => ?_
    refine (QC ho6_3.shows) ?_
    refine z6 (congrArg ii (show _ = (us.getD i []).length + 1 by omega)) ?_
    refine (Qm)<|Qn<|Qb ?_
    refine QzK [(1, _), (10, _), (39, _), (68, _), (69, _), (70, _), (86, _), (87, _)] [(0, _), (1, oz2_1), (2, oz6_3), (3, _)] (fun kk E m => ∃ (p : Nat) (w4 : Value) (ow : Option Blk), kk = ((us.getD i []).length + 1) - p ∧ E = [(3, w4), (88, ii p)] ∧ m = [(50, ow)] ∧ (p ≤ ((us.getD i []).length + 1)) ∧ (OwnS 141 2 w4 (zj L (2 + i) p).length ((zj L (2 + i) p).flatMap evC) (Option.toList ow)) ∧ (∀ t, t < p → vK L (2 + i) t = true)) ⟨0, w3, ox, rfl, rfl, rfl, by omega, hf2_1, fun _ h => absurd h (Nat.not_lt_zero _)⟩ ⟨rfl, rfl, rfl, rfl, rfl, rfl, rfl, rfl, rfl, rfl, trivial⟩ ⟨rfl, rfl, rfl, rfl, rfl, trivial⟩ ?_
    rintro kk E m ⟨p, w4, ow, rfl, rfl, rfl, hf3_0, hf3_1, hf3_2⟩
    simp only [zo, zu]
    have hui := hug i (by omega)
    have hlen : (zj L (2 + i) p).length ≤ 1000000 := by have := hle (2 + i) p; omega
    have hrow3 : zj L (2 + i) ((us.getD i []).length + 1) = zj L (2 + (i + 1)) 0 := by rw [show 2 + (i + 1) = 2 + i + 1 by omega, ← WO (by omega), hLt i (by omega), List.length_map, List.length_append]; rfl
    refine (gq) ?_
    refine (Qcd) (fun hc7=>?_) fun hc7=>?_
    ·have hc7 : p < ((us.getD i []).length + 1) := by omega
     refine Qk<|Qs<|Qb<|(g4) ?_
     refine yf ho6_3.shows (Uu 25) (Uz 3) rfl rfl (by omega) rfl ?_
     refine (QS) ?_
     refine zR ho6_3.shows (zH 2 rfl ⟨[], trivial⟩) (Uu 3) rfl rfl (zj2 (by omega)) rfl ?_
     refine VS fun y hy => ?_
     refine (g3) ?_
     have he : (L.getD (2 + i) []).getD p (0, 0) = (xQ late i, y) := by rw [hLt i (by omega), z3x (by rw [List.length_append]; exact hc7), hy]
     have hjl : p < (L.getD (2 + i) []).length := by rw [hLt i (by omega), List.length_map, List.length_append]; exact hc7
     have hok := za5 he
     refine (g4) ?_
     refine yd [(1, _), (3, _), (10, _), (12, _), (39, _), (68, _), (69, _), (70, _), (86, _), (87, _), (88, _), (89, _), (90, _), (91, _)] [(13, .bool (xP (zj L (2 + i) p)))] [(0, some _), (1, oz2_1), (2, oz6_3), (3, some _), (50, ow)] ⟨rfl, rfl, rfl, rfl, rfl, rfl, rfl, rfl, rfl, rfl, rfl, rfl, rfl, rfl, trivial⟩ ⟨rfl, rfl, rfl, rfl, rfl, trivial⟩ ?_ ?_
     ·skip
      refine (Qm) ?_
      refine zi rfl rfl (Un 94) (zH 50 rfl ⟨[], trivial⟩) (zE (G := Option.toList ow) w4 (zj L (2 + i) p) (-1) 3 hf3_1.shows hlen) rfl rfl ?_
      refine (Qm) ?_
      refine zn (b := hap (zj L (2 + i) p) (-1) 3) (fun hb1 => ?_) (fun hb1 => ?_)
      ·skip
       refine (g5)<|(QT)<|(Qm)<|(g5)<|(QT)<|(Qm)<|(g5)<|(QT)<|(Qm)<|(g5)<|(QT)<|(g3) ?_
       exact ⟨⟨rfl, rfl, rfl, rfl, rfl, rfl, rfl, rfl, rfl, rfl, rfl, rfl, rfl, rfl, trivial⟩, ⟨z5 (by rw [xP, hb1] <;> rfl), trivial⟩, ⟨rfl, rfl, rfl, rfl, rfl, trivial⟩⟩
      ·skip
       refine (Qy)<|(g7) ?_
       refine zi rfl rfl (Un 94) (zH 50 rfl ⟨[], trivial⟩) (zE (G := Option.toList ow) w4 (zj L (2 + i) p) (-1) 4 hf3_1.shows hlen) rfl rfl ?_
       refine (QF)<|(Qm) ?_
       refine zn (b := hap (zj L (2 + i) p) (-1) 4) (fun hb2 => ?_) (fun hb2 => ?_)
       ·skip
        refine (g5)<|(QT)<|(Qm)<|(g5)<|(QT)<|(Qm)<|(g5)<|(QT)<|(g3) ?_
        exact ⟨⟨rfl, rfl, rfl, rfl, rfl, rfl, rfl, rfl, rfl, rfl, rfl, rfl, rfl, rfl, trivial⟩, ⟨z5 (by rw [xP, hb1, hb2] <;> rfl), trivial⟩, ⟨rfl, rfl, rfl, rfl, rfl, trivial⟩⟩
       ·skip
        refine (Qy)<|(g7) ?_
        refine zi rfl rfl (Un 94) (zH 50 rfl ⟨[], trivial⟩) (zE (G := Option.toList ow) w4 (zj L (2 + i) p) (-1) 5 hf3_1.shows hlen) rfl rfl ?_
        refine (QF)<|(Qm) ?_
        refine zn (b := hap (zj L (2 + i) p) (-1) 5) (fun hb3 => ?_) (fun hb3 => ?_)
        ·skip
         refine (g5)<|(QT)<|(Qm)<|(g5)<|(QT)<|(g3) ?_
         exact ⟨⟨rfl, rfl, rfl, rfl, rfl, rfl, rfl, rfl, rfl, rfl, rfl, rfl, rfl, rfl, trivial⟩, ⟨z5 (by rw [xP, hb1, hb2, hb3] <;> rfl), trivial⟩, ⟨rfl, rfl, rfl, rfl, rfl, trivial⟩⟩
        ·skip
         refine (Qy)<|(g7) ?_
         refine zi rfl rfl (Un 94) (zH 50 rfl ⟨[], trivial⟩) (zE (G := Option.toList ow) w4 (zj L (2 + i) p) (-1) 6 hf3_1.shows hlen) rfl rfl ?_
         refine (QF)<|(Qm) ?_
         refine zn (b := hap (zj L (2 + i) p) (-1) 6) (fun hb4 => ?_) (fun hb4 => ?_)
         ·skip
          refine (g5)<|(QT)<|(g3) ?_
          exact ⟨⟨rfl, rfl, rfl, rfl, rfl, rfl, rfl, rfl, rfl, rfl, rfl, rfl, rfl, rfl, trivial⟩, ⟨z5 (by rw [xP, hb1, hb2, hb3, hb4] <;> rfl), trivial⟩, ⟨rfl, rfl, rfl, rfl, rfl, trivial⟩⟩
         ·skip
          refine (Qy)<|(g7) ?_
          refine zi rfl rfl (Un 94) (zH 50 rfl ⟨[], trivial⟩) (zE (G := Option.toList ow) w4 (zj L (2 + i) p) (-1) 7 hf3_1.shows hlen) rfl rfl ?_
          refine (QF)<|(g3) ?_
          exact ⟨⟨rfl, rfl, rfl, rfl, rfl, rfl, rfl, rfl, rfl, rfl, rfl, rfl, rfl, rfl, trivial⟩, ⟨z5 (by rw [xP, hb1, hb2, hb3, hb4] <;> rfl), trivial⟩, ⟨rfl, rfl, rfl, rfl, rfl, trivial⟩⟩
     ·simp only [zo]
      refine (gd)<|(jg)<|(g4)<|(Qc)<|(g3) ?_
      refine Yw [(1, _), (3, _), (10, _), (12, _), (13, _), (39, _), (68, _), (69, _), (70, _), (86, _), (87, _), (88, _), (89, _), (90, _), (91, _), (110, _), (111, _), (112, _)] [(14, .bool (okT (zj L (2 + i) p) (xQ late i) y))] [(0, some _), (1, oz2_1), (2, oz6_3), (3, some _), (50, ow)] ⟨rfl, rfl, rfl, rfl, rfl, rfl, rfl, rfl, rfl, rfl, rfl, rfl, rfl, rfl, rfl, rfl, rfl, rfl, trivial⟩ ⟨rfl, rfl, rfl, rfl, rfl, trivial⟩ ?_ ?_
      ·skip
       refine zh rfl ?_ ?_
       ·intro hc8
        have hk0 : y = 0 := by have := of_decide_eq_true hc8; omega
        refine Qp ?_
        refine yd [(1, _), (3, _), (10, _), (12, _), (13, _), (39, _), (68, _), (69, _), (70, _), (86, _), (87, _), (88, _), (89, _), (90, _), (91, _), (110, _), (111, _), (112, _)] [(14, .bool (!(xP (zj L (2 + i) p)) || mlock (zj L (2 + i) p) (xQ late i)))] [(0, some _), (1, oz2_1), (2, oz6_3), (3, some _), (50, ow)] ⟨rfl, rfl, rfl, rfl, rfl, rfl, rfl, rfl, rfl, rfl, rfl, rfl, rfl, rfl, rfl, rfl, rfl, rfl, trivial⟩ ⟨rfl, rfl, rfl, rfl, rfl, trivial⟩ ?_ ?_
        ·skip
         refine (Qm)<|(Q0)<|(Qm) ?_
         refine zn (b := !(xP (zj L (2 + i) p))) (fun hb5 => ?_) (fun hb5 => ?_)
         ·skip
          refine (gx)<|(QT)<|(g3) ?_
          exact ⟨⟨rfl, rfl, rfl, rfl, rfl, rfl, rfl, rfl, rfl, rfl, rfl, rfl, rfl, rfl, rfl, rfl, rfl, rfl, trivial⟩, ⟨z5 (by rw [hb5] <;> rfl), trivial⟩, ⟨rfl, rfl, rfl, rfl, rfl, trivial⟩⟩
         ·skip
          refine (Qy)<|(gm) ?_
          refine zi rfl rfl (Un 95) (zH 50 rfl ⟨[], trivial⟩) (z0R (G := Option.toList ow) w4 (zj L (2 + i) p) (xQ late i) hf3_1.shows hlen) rfl rfl ?_
          refine (QF)<|(g3) ?_
          exact ⟨⟨rfl, rfl, rfl, rfl, rfl, rfl, rfl, rfl, rfl, rfl, rfl, rfl, rfl, rfl, rfl, rfl, rfl, rfl, trivial⟩, ⟨z5 (by rw [hb5] <;> rfl), trivial⟩, ⟨rfl, rfl, rfl, rfl, rfl, trivial⟩⟩
        ·simp only [zo]
         exact ⟨⟨rfl, rfl, rfl, rfl, rfl, rfl, rfl, rfl, rfl, rfl, rfl, rfl, rfl, rfl, rfl, rfl, rfl, rfl, trivial⟩, ⟨(z5 (by first | (rw [okT, if_pos hk0]) | (rw [okT, if_neg hk0, if_pos hk1]) | (rw [okT, if_neg hk0, if_neg hk1, if_pos hk2]) | (rw [okT, if_neg hk0, if_neg hk1, if_neg hk2, if_pos hk3]) | (rw [okT, if_neg hk0, if_neg hk1, if_neg hk2, if_neg hk3, if_pos hk4]) | (rw [okT, if_neg hk0, if_neg hk1, if_neg hk2, if_neg hk3, if_neg hk4, if_pos hk5]) | (rw [okT, if_neg hk0, if_neg hk1, if_neg hk2, if_neg hk3, if_neg hk4, if_neg hk5, if_pos hk6]) | (rw [okT, if_neg hk0, if_neg hk1, if_neg hk2, if_neg hk3, if_neg hk4, if_neg hk5, if_neg hk6]))), trivial⟩, ⟨rfl, rfl, rfl, rfl, rfl, trivial⟩⟩
       ·intro hc8
        have hk0 : ¬ y = 0 := by have := of_decide_eq_false hc8; omega
        refine (g4)<|(Qc)<|(g3) ?_
        refine zh rfl ?_ ?_
        ·intro hc9
         have hk1 : y = 1 := by have := of_decide_eq_true hc9; omega
         refine Qp<|(gb) ?_
         refine zi rfl rfl (Un 94) (zH 50 rfl ⟨[], trivial⟩) (zE (G := Option.toList ow) w4 (zj L (2 + i) p) (xQ late i) 1 hf3_1.shows hlen) rfl rfl ?_
         refine (Q0)<|(g3) ?_
         exact ⟨⟨rfl, rfl, rfl, rfl, rfl, rfl, rfl, rfl, rfl, rfl, rfl, rfl, rfl, rfl, rfl, rfl, rfl, rfl, trivial⟩, ⟨(z5 (by first | (rw [okT, if_pos hk0]) | (rw [okT, if_neg hk0, if_pos hk1]) | (rw [okT, if_neg hk0, if_neg hk1, if_pos hk2]) | (rw [okT, if_neg hk0, if_neg hk1, if_neg hk2, if_pos hk3]) | (rw [okT, if_neg hk0, if_neg hk1, if_neg hk2, if_neg hk3, if_pos hk4]) | (rw [okT, if_neg hk0, if_neg hk1, if_neg hk2, if_neg hk3, if_neg hk4, if_pos hk5]) | (rw [okT, if_neg hk0, if_neg hk1, if_neg hk2, if_neg hk3, if_neg hk4, if_neg hk5, if_pos hk6]) | (rw [okT, if_neg hk0, if_neg hk1, if_neg hk2, if_neg hk3, if_neg hk4, if_neg hk5, if_neg hk6]))), trivial⟩, ⟨rfl, rfl, rfl, rfl, rfl, trivial⟩⟩
        ·intro hc9
         have hk1 : ¬ y = 1 := by have := of_decide_eq_false hc9; omega
         refine (g4)<|(Qc)<|(g3) ?_
         refine zh rfl ?_ ?_
         ·intro hc10
          have hk2 : y = 2 := by have := of_decide_eq_true hc10; omega
          refine Qp ?_
          refine yd [(1, _), (3, _), (10, _), (12, _), (13, _), (39, _), (68, _), (69, _), (70, _), (86, _), (87, _), (88, _), (89, _), (90, _), (91, _), (110, _), (111, _), (112, _), (120, _), (121, _), (126, _), (127, _)] [(14, .bool (!(hap (zj L (2 + i) p) (xQ late i) 2) && (!(xP (zj L (2 + i) p)) || mlock (zj L (2 + i) p) (xQ late i))))] [(0, some _), (1, oz2_1), (2, oz6_3), (3, some _), (50, ow)] ⟨rfl, rfl, rfl, rfl, rfl, rfl, rfl, rfl, rfl, rfl, rfl, rfl, rfl, rfl, rfl, rfl, rfl, rfl, rfl, rfl, rfl, rfl, trivial⟩ ⟨rfl, rfl, rfl, rfl, rfl, trivial⟩ ?_ ?_
          ·skip
           refine (gb) ?_
           refine zi rfl rfl (Un 94) (zH 50 rfl ⟨[], trivial⟩) (zE (G := Option.toList ow) w4 (zj L (2 + i) p) (xQ late i) 2 hf3_1.shows hlen) rfl rfl ?_
           refine (Q0)<|(Qm) ?_
           refine zn (b := !(hap (zj L (2 + i) p) (xQ late i) 2)) (fun hb6 => ?_) (fun hb6 => ?_)
           ·skip
            refine (Qy)<|(g7)<|(Q0)<|(Qy)<|(Qm) ?_
            refine zn (b := !(xP (zj L (2 + i) p))) (fun hb7 => ?_) (fun hb7 => ?_)
            ·skip
             refine (gx)<|(Qy)<|(QT)<|(QT)<|(g3) ?_
             exact ⟨⟨rfl, rfl, rfl, rfl, rfl, rfl, rfl, rfl, rfl, rfl, rfl, rfl, rfl, rfl, rfl, rfl, rfl, rfl, rfl, rfl, rfl, rfl, trivial⟩, ⟨z5 (by rw [hb6, hb7] <;> rfl), trivial⟩, ⟨rfl, rfl, rfl, rfl, rfl, trivial⟩⟩
            ·skip
             refine (Qy)<|(gm) ?_
             refine zi rfl rfl (Un 95) (zH 50 rfl ⟨[], trivial⟩) (z0R (G := Option.toList ow) w4 (zj L (2 + i) p) (xQ late i) hf3_1.shows hlen) rfl rfl ?_
             refine (Qy)<|(QF)<|(QT)<|(g3) ?_
             exact ⟨⟨rfl, rfl, rfl, rfl, rfl, rfl, rfl, rfl, rfl, rfl, rfl, rfl, rfl, rfl, rfl, rfl, rfl, rfl, rfl, rfl, rfl, rfl, trivial⟩, ⟨z5 (by rw [hb6, hb7] <;> rfl), trivial⟩, ⟨rfl, rfl, rfl, rfl, rfl, trivial⟩⟩
           ·skip
            refine (gx)<|(Qw)<|(Qw)<|(Qw)<|(Qo)<|(QF)<|(g3) ?_
            exact ⟨⟨rfl, rfl, rfl, rfl, rfl, rfl, rfl, rfl, rfl, rfl, rfl, rfl, rfl, rfl, rfl, rfl, rfl, rfl, rfl, rfl, rfl, rfl, trivial⟩, ⟨z5 (by rw [hb6] <;> rfl), trivial⟩, ⟨rfl, rfl, rfl, rfl, rfl, trivial⟩⟩
          ·simp only [zo]
           exact ⟨⟨rfl, rfl, rfl, rfl, rfl, rfl, rfl, rfl, rfl, rfl, rfl, rfl, rfl, rfl, rfl, rfl, rfl, rfl, trivial⟩, ⟨(z5 (by first | (rw [okT, if_pos hk0]) | (rw [okT, if_neg hk0, if_pos hk1]) | (rw [okT, if_neg hk0, if_neg hk1, if_pos hk2]) | (rw [okT, if_neg hk0, if_neg hk1, if_neg hk2, if_pos hk3]) | (rw [okT, if_neg hk0, if_neg hk1, if_neg hk2, if_neg hk3, if_pos hk4]) | (rw [okT, if_neg hk0, if_neg hk1, if_neg hk2, if_neg hk3, if_neg hk4, if_pos hk5]) | (rw [okT, if_neg hk0, if_neg hk1, if_neg hk2, if_neg hk3, if_neg hk4, if_neg hk5, if_pos hk6]) | (rw [okT, if_neg hk0, if_neg hk1, if_neg hk2, if_neg hk3, if_neg hk4, if_neg hk5, if_neg hk6]))), trivial⟩, ⟨rfl, rfl, rfl, rfl, rfl, trivial⟩⟩
         ·intro hc10
          have hk2 : ¬ y = 2 := by have := of_decide_eq_false hc10; omega
          refine (g4)<|(Qc)<|(g3) ?_
          refine zh rfl ?_ ?_
          ·intro hc11
           have hk3 : y = 3 := by have := of_decide_eq_true hc11; omega
           refine Qp ?_
           refine yd [(1, _), (3, _), (10, _), (12, _), (13, _), (39, _), (68, _), (69, _), (70, _), (86, _), (87, _), (88, _), (89, _), (90, _), (91, _), (110, _), (111, _), (112, _), (120, _), (121, _), (126, _), (127, _), (141, _), (142, _)] [(14, .bool ((hap (zj L (2 + i) p) 0 1 && hap (zj L (2 + i) p) 1 1) && !(hap (zj L (2 + i) p) (-1) y)))] [(0, some _), (1, oz2_1), (2, oz6_3), (3, some _), (50, ow)] ⟨rfl, rfl, rfl, rfl, rfl, rfl, rfl, rfl, rfl, rfl, rfl, rfl, rfl, rfl, rfl, rfl, rfl, rfl, rfl, rfl, rfl, rfl, rfl, rfl, trivial⟩ ⟨rfl, rfl, rfl, rfl, rfl, trivial⟩ ?_ ?_
           ·skip
            refine (Qm) ?_
            refine zi rfl rfl (Un 94) (zH 50 rfl ⟨[], trivial⟩) (zE (G := Option.toList ow) w4 (zj L (2 + i) p) 0 1 hf3_1.shows hlen) rfl rfl ?_
            refine (Qm) ?_
            refine zn (b := hap (zj L (2 + i) p) 0 1) (fun hb8 => ?_) (fun hb8 => ?_)
            ·skip
             refine (Qy)<|(g7) ?_
             refine zi rfl rfl (Un 94) (zH 50 rfl ⟨[], trivial⟩) (zE (G := Option.toList ow) w4 (zj L (2 + i) p) 1 1 hf3_1.shows hlen) rfl rfl ?_
             refine (QT)<|(Qm) ?_
             refine zn (b := hap (zj L (2 + i) p) 1 1) (fun hb9 => ?_) (fun hb9 => ?_)
             ·skip
              refine (Qy)<|(gm) ?_
              refine zi rfl rfl (Un 94) (zH 50 rfl ⟨[], trivial⟩) (zE (G := Option.toList ow) w4 (zj L (2 + i) p) (-1) y hf3_1.shows hlen) rfl rfl ?_
              refine (Qy)<|(Q0)<|(QT)<|(g3) ?_
              exact ⟨⟨rfl, rfl, rfl, rfl, rfl, rfl, rfl, rfl, rfl, rfl, rfl, rfl, rfl, rfl, rfl, rfl, rfl, rfl, rfl, rfl, rfl, rfl, rfl, rfl, trivial⟩, ⟨z5 (by rw [hb8, hb9] <;> rfl), trivial⟩, ⟨rfl, rfl, rfl, rfl, rfl, trivial⟩⟩
             ·skip
              refine (gg)<|(QF)<|(g3) ?_
              exact ⟨⟨rfl, rfl, rfl, rfl, rfl, rfl, rfl, rfl, rfl, rfl, rfl, rfl, rfl, rfl, rfl, rfl, rfl, rfl, rfl, rfl, rfl, rfl, rfl, rfl, trivial⟩, ⟨z5 (by rw [hb8, hb9] <;> rfl), trivial⟩, ⟨rfl, rfl, rfl, rfl, rfl, trivial⟩⟩
            ·skip
             refine (g5)<|(QF)<|(j6)<|(QF)<|(g3) ?_
             exact ⟨⟨rfl, rfl, rfl, rfl, rfl, rfl, rfl, rfl, rfl, rfl, rfl, rfl, rfl, rfl, rfl, rfl, rfl, rfl, rfl, rfl, rfl, rfl, rfl, rfl, trivial⟩, ⟨z5 (by rw [hb8] <;> rfl), trivial⟩, ⟨rfl, rfl, rfl, rfl, rfl, trivial⟩⟩
           ·simp only [zo]
            exact ⟨⟨rfl, rfl, rfl, rfl, rfl, rfl, rfl, rfl, rfl, rfl, rfl, rfl, rfl, rfl, rfl, rfl, rfl, rfl, trivial⟩, ⟨(z5 (by first | (rw [okT, if_pos hk0]) | (rw [okT, if_neg hk0, if_pos hk1]) | (rw [okT, if_neg hk0, if_neg hk1, if_pos hk2]) | (rw [okT, if_neg hk0, if_neg hk1, if_neg hk2, if_pos hk3]) | (rw [okT, if_neg hk0, if_neg hk1, if_neg hk2, if_neg hk3, if_pos hk4]) | (rw [okT, if_neg hk0, if_neg hk1, if_neg hk2, if_neg hk3, if_neg hk4, if_pos hk5]) | (rw [okT, if_neg hk0, if_neg hk1, if_neg hk2, if_neg hk3, if_neg hk4, if_neg hk5, if_pos hk6]) | (rw [okT, if_neg hk0, if_neg hk1, if_neg hk2, if_neg hk3, if_neg hk4, if_neg hk5, if_neg hk6]))), trivial⟩, ⟨rfl, rfl, rfl, rfl, rfl, trivial⟩⟩
          ·intro hc11
           have hk3 : ¬ y = 3 := by have := of_decide_eq_false hc11; omega
           refine (g4)<|(Qc)<|(g3) ?_
           refine zh rfl ?_ ?_
           ·intro hc12
            have hk4 : y = 4 := by have := of_decide_eq_true hc12; omega
            refine Qp ?_
            refine yd [(1, _), (3, _), (10, _), (12, _), (13, _), (39, _), (68, _), (69, _), (70, _), (86, _), (87, _), (88, _), (89, _), (90, _), (91, _), (110, _), (111, _), (112, _), (120, _), (121, _), (126, _), (127, _), (141, _), (142, _), (155, _), (156, _)] [(14, .bool ((hap (zj L (2 + i) p) 0 1 && hap (zj L (2 + i) p) 1 2) && !(hap (zj L (2 + i) p) (-1) y)))] [(0, some _), (1, oz2_1), (2, oz6_3), (3, some _), (50, ow)] ⟨rfl, rfl, rfl, rfl, rfl, rfl, rfl, rfl, rfl, rfl, rfl, rfl, rfl, rfl, rfl, rfl, rfl, rfl, rfl, rfl, rfl, rfl, rfl, rfl, rfl, rfl, trivial⟩ ⟨rfl, rfl, rfl, rfl, rfl, trivial⟩ ?_ ?_
            ·skip
             refine (Qm) ?_
             refine zi rfl rfl (Un 94) (zH 50 rfl ⟨[], trivial⟩) (zE (G := Option.toList ow) w4 (zj L (2 + i) p) 0 1 hf3_1.shows hlen) rfl rfl ?_
             refine (Qm) ?_
             refine zn (b := hap (zj L (2 + i) p) 0 1) (fun hb10 => ?_) (fun hb10 => ?_)
             ·skip
              refine (Qy)<|(g7) ?_
              refine zi rfl rfl (Un 94) (zH 50 rfl ⟨[], trivial⟩) (zE (G := Option.toList ow) w4 (zj L (2 + i) p) 1 2 hf3_1.shows hlen) rfl rfl ?_
              refine (QT)<|(Qm) ?_
              refine zn (b := hap (zj L (2 + i) p) 1 2) (fun hb11 => ?_) (fun hb11 => ?_)
              ·skip
               refine (Qy)<|(gm) ?_
               refine zi rfl rfl (Un 94) (zH 50 rfl ⟨[], trivial⟩) (zE (G := Option.toList ow) w4 (zj L (2 + i) p) (-1) y hf3_1.shows hlen) rfl rfl ?_
               refine (Qy)<|(Q0)<|(QT)<|(g3) ?_
               exact ⟨⟨rfl, rfl, rfl, rfl, rfl, rfl, rfl, rfl, rfl, rfl, rfl, rfl, rfl, rfl, rfl, rfl, rfl, rfl, rfl, rfl, rfl, rfl, rfl, rfl, rfl, rfl, trivial⟩, ⟨z5 (by rw [hb10, hb11] <;> rfl), trivial⟩, ⟨rfl, rfl, rfl, rfl, rfl, trivial⟩⟩
              ·skip
               refine (gg)<|(QF)<|(g3) ?_
               exact ⟨⟨rfl, rfl, rfl, rfl, rfl, rfl, rfl, rfl, rfl, rfl, rfl, rfl, rfl, rfl, rfl, rfl, rfl, rfl, rfl, rfl, rfl, rfl, rfl, rfl, rfl, rfl, trivial⟩, ⟨z5 (by rw [hb10, hb11] <;> rfl), trivial⟩, ⟨rfl, rfl, rfl, rfl, rfl, trivial⟩⟩
             ·skip
              refine (g5)<|(QF)<|(j6)<|(QF)<|(g3) ?_
              exact ⟨⟨rfl, rfl, rfl, rfl, rfl, rfl, rfl, rfl, rfl, rfl, rfl, rfl, rfl, rfl, rfl, rfl, rfl, rfl, rfl, rfl, rfl, rfl, rfl, rfl, rfl, rfl, trivial⟩, ⟨z5 (by rw [hb10] <;> rfl), trivial⟩, ⟨rfl, rfl, rfl, rfl, rfl, trivial⟩⟩
            ·simp only [zo]
             exact ⟨⟨rfl, rfl, rfl, rfl, rfl, rfl, rfl, rfl, rfl, rfl, rfl, rfl, rfl, rfl, rfl, rfl, rfl, rfl, trivial⟩, ⟨(z5 (by first | (rw [okT, if_pos hk0]) | (rw [okT, if_neg hk0, if_pos hk1]) | (rw [okT, if_neg hk0, if_neg hk1, if_pos hk2]) | (rw [okT, if_neg hk0, if_neg hk1, if_neg hk2, if_pos hk3]) | (rw [okT, if_neg hk0, if_neg hk1, if_neg hk2, if_neg hk3, if_pos hk4]) | (rw [okT, if_neg hk0, if_neg hk1, if_neg hk2, if_neg hk3, if_neg hk4, if_pos hk5]) | (rw [okT, if_neg hk0, if_neg hk1, if_neg hk2, if_neg hk3, if_neg hk4, if_neg hk5, if_pos hk6]) | (rw [okT, if_neg hk0, if_neg hk1, if_neg hk2, if_neg hk3, if_neg hk4, if_neg hk5, if_neg hk6]))), trivial⟩, ⟨rfl, rfl, rfl, rfl, rfl, trivial⟩⟩
           ·intro hc12
            have hk4 : ¬ y = 4 := by have := of_decide_eq_false hc12; omega
            refine (g4)<|(Qc)<|(g3) ?_
            refine zh rfl ?_ ?_
            ·intro hc13
             have hk5 : y = 5 := by have := of_decide_eq_true hc13; omega
             refine Qp ?_
             refine yd [(1, _), (3, _), (10, _), (12, _), (13, _), (39, _), (68, _), (69, _), (70, _), (86, _), (87, _), (88, _), (89, _), (90, _), (91, _), (110, _), (111, _), (112, _), (120, _), (121, _), (126, _), (127, _), (141, _), (142, _), (155, _), (156, _), (169, _), (170, _)] [(14, .bool ((hap (zj L (2 + i) p) 0 2 && hap (zj L (2 + i) p) 1 1) && !(hap (zj L (2 + i) p) (-1) y)))] [(0, some _), (1, oz2_1), (2, oz6_3), (3, some _), (50, ow)] ⟨rfl, rfl, rfl, rfl, rfl, rfl, rfl, rfl, rfl, rfl, rfl, rfl, rfl, rfl, rfl, rfl, rfl, rfl, rfl, rfl, rfl, rfl, rfl, rfl, rfl, rfl, rfl, rfl, trivial⟩ ⟨rfl, rfl, rfl, rfl, rfl, trivial⟩ ?_ ?_
             ·skip
              refine (Qm) ?_
              refine zi rfl rfl (Un 94) (zH 50 rfl ⟨[], trivial⟩) (zE (G := Option.toList ow) w4 (zj L (2 + i) p) 0 2 hf3_1.shows hlen) rfl rfl ?_
              refine (Qm) ?_
              refine zn (b := hap (zj L (2 + i) p) 0 2) (fun hb12 => ?_) (fun hb12 => ?_)
              ·skip
               refine (Qy)<|(g7) ?_
               refine zi rfl rfl (Un 94) (zH 50 rfl ⟨[], trivial⟩) (zE (G := Option.toList ow) w4 (zj L (2 + i) p) 1 1 hf3_1.shows hlen) rfl rfl ?_
               refine (QT)<|(Qm) ?_
               refine zn (b := hap (zj L (2 + i) p) 1 1) (fun hb13 => ?_) (fun hb13 => ?_)
               ·skip
                refine (Qy)<|(gm) ?_
                refine zi rfl rfl (Un 94) (zH 50 rfl ⟨[], trivial⟩) (zE (G := Option.toList ow) w4 (zj L (2 + i) p) (-1) y hf3_1.shows hlen) rfl rfl ?_
                refine (Qy)<|(Q0)<|(QT)<|(g3) ?_
                exact ⟨⟨rfl, rfl, rfl, rfl, rfl, rfl, rfl, rfl, rfl, rfl, rfl, rfl, rfl, rfl, rfl, rfl, rfl, rfl, rfl, rfl, rfl, rfl, rfl, rfl, rfl, rfl, rfl, rfl, trivial⟩, ⟨z5 (by rw [hb12, hb13] <;> rfl), trivial⟩, ⟨rfl, rfl, rfl, rfl, rfl, trivial⟩⟩
               ·skip
                refine (gg)<|(QF)<|(g3) ?_
                exact ⟨⟨rfl, rfl, rfl, rfl, rfl, rfl, rfl, rfl, rfl, rfl, rfl, rfl, rfl, rfl, rfl, rfl, rfl, rfl, rfl, rfl, rfl, rfl, rfl, rfl, rfl, rfl, rfl, rfl, trivial⟩, ⟨z5 (by rw [hb12, hb13] <;> rfl), trivial⟩, ⟨rfl, rfl, rfl, rfl, rfl, trivial⟩⟩
              ·skip
               refine (g5)<|(QF)<|(j6)<|(QF)<|(g3) ?_
               exact ⟨⟨rfl, rfl, rfl, rfl, rfl, rfl, rfl, rfl, rfl, rfl, rfl, rfl, rfl, rfl, rfl, rfl, rfl, rfl, rfl, rfl, rfl, rfl, rfl, rfl, rfl, rfl, rfl, rfl, trivial⟩, ⟨z5 (by rw [hb12] <;> rfl), trivial⟩, ⟨rfl, rfl, rfl, rfl, rfl, trivial⟩⟩
             ·simp only [zo]
              exact ⟨⟨rfl, rfl, rfl, rfl, rfl, rfl, rfl, rfl, rfl, rfl, rfl, rfl, rfl, rfl, rfl, rfl, rfl, rfl, trivial⟩, ⟨(z5 (by first | (rw [okT, if_pos hk0]) | (rw [okT, if_neg hk0, if_pos hk1]) | (rw [okT, if_neg hk0, if_neg hk1, if_pos hk2]) | (rw [okT, if_neg hk0, if_neg hk1, if_neg hk2, if_pos hk3]) | (rw [okT, if_neg hk0, if_neg hk1, if_neg hk2, if_neg hk3, if_pos hk4]) | (rw [okT, if_neg hk0, if_neg hk1, if_neg hk2, if_neg hk3, if_neg hk4, if_pos hk5]) | (rw [okT, if_neg hk0, if_neg hk1, if_neg hk2, if_neg hk3, if_neg hk4, if_neg hk5, if_pos hk6]) | (rw [okT, if_neg hk0, if_neg hk1, if_neg hk2, if_neg hk3, if_neg hk4, if_neg hk5, if_neg hk6]))), trivial⟩, ⟨rfl, rfl, rfl, rfl, rfl, trivial⟩⟩
            ·intro hc13
             have hk5 : ¬ y = 5 := by have := of_decide_eq_false hc13; omega
             refine (g4)<|(Qc)<|(g3) ?_
             refine zh rfl ?_ ?_
             ·intro hc14
              have hk6 : y = 6 := by have := of_decide_eq_true hc14; omega
              refine Qp ?_
              refine yd [(1, _), (3, _), (10, _), (12, _), (13, _), (39, _), (68, _), (69, _), (70, _), (86, _), (87, _), (88, _), (89, _), (90, _), (91, _), (110, _), (111, _), (112, _), (120, _), (121, _), (126, _), (127, _), (141, _), (142, _), (155, _), (156, _), (169, _), (170, _), (183, _), (184, _)] [(14, .bool ((hap (zj L (2 + i) p) 0 2 && hap (zj L (2 + i) p) 1 2) && !(hap (zj L (2 + i) p) (-1) y)))] [(0, some _), (1, oz2_1), (2, oz6_3), (3, some _), (50, ow)] ⟨rfl, rfl, rfl, rfl, rfl, rfl, rfl, rfl, rfl, rfl, rfl, rfl, rfl, rfl, rfl, rfl, rfl, rfl, rfl, rfl, rfl, rfl, rfl, rfl, rfl, rfl, rfl, rfl, rfl, rfl, trivial⟩ ⟨rfl, rfl, rfl, rfl, rfl, trivial⟩ ?_ ?_
              ·skip
               refine (Qm) ?_
               refine zi rfl rfl (Un 94) (zH 50 rfl ⟨[], trivial⟩) (zE (G := Option.toList ow) w4 (zj L (2 + i) p) 0 2 hf3_1.shows hlen) rfl rfl ?_
               refine (Qm) ?_
               refine zn (b := hap (zj L (2 + i) p) 0 2) (fun hb14 => ?_) (fun hb14 => ?_)
               ·skip
                refine (Qy)<|(g7) ?_
                refine zi rfl rfl (Un 94) (zH 50 rfl ⟨[], trivial⟩) (zE (G := Option.toList ow) w4 (zj L (2 + i) p) 1 2 hf3_1.shows hlen) rfl rfl ?_
                refine (QT)<|(Qm) ?_
                refine zn (b := hap (zj L (2 + i) p) 1 2) (fun hb15 => ?_) (fun hb15 => ?_)
                ·skip
                 refine (Qy)<|(gm) ?_
                 refine zi rfl rfl (Un 94) (zH 50 rfl ⟨[], trivial⟩) (zE (G := Option.toList ow) w4 (zj L (2 + i) p) (-1) y hf3_1.shows hlen) rfl rfl ?_
                 refine (Qy)<|(Q0)<|(QT)<|(g3) ?_
                 exact ⟨⟨rfl, rfl, rfl, rfl, rfl, rfl, rfl, rfl, rfl, rfl, rfl, rfl, rfl, rfl, rfl, rfl, rfl, rfl, rfl, rfl, rfl, rfl, rfl, rfl, rfl, rfl, rfl, rfl, rfl, rfl, trivial⟩, ⟨z5 (by rw [hb14, hb15] <;> rfl), trivial⟩, ⟨rfl, rfl, rfl, rfl, rfl, trivial⟩⟩
                ·skip
                 refine (gg)<|(QF)<|(g3) ?_
                 exact ⟨⟨rfl, rfl, rfl, rfl, rfl, rfl, rfl, rfl, rfl, rfl, rfl, rfl, rfl, rfl, rfl, rfl, rfl, rfl, rfl, rfl, rfl, rfl, rfl, rfl, rfl, rfl, rfl, rfl, rfl, rfl, trivial⟩, ⟨z5 (by rw [hb14, hb15] <;> rfl), trivial⟩, ⟨rfl, rfl, rfl, rfl, rfl, trivial⟩⟩
               ·skip
                refine (g5)<|(QF)<|(j6)<|(QF)<|(g3) ?_
                exact ⟨⟨rfl, rfl, rfl, rfl, rfl, rfl, rfl, rfl, rfl, rfl, rfl, rfl, rfl, rfl, rfl, rfl, rfl, rfl, rfl, rfl, rfl, rfl, rfl, rfl, rfl, rfl, rfl, rfl, rfl, rfl, trivial⟩, ⟨z5 (by rw [hb14] <;> rfl), trivial⟩, ⟨rfl, rfl, rfl, rfl, rfl, trivial⟩⟩
              ·simp only [zo]
               exact ⟨⟨rfl, rfl, rfl, rfl, rfl, rfl, rfl, rfl, rfl, rfl, rfl, rfl, rfl, rfl, rfl, rfl, rfl, rfl, trivial⟩, ⟨(z5 (by first | (rw [okT, if_pos hk0]) | (rw [okT, if_neg hk0, if_pos hk1]) | (rw [okT, if_neg hk0, if_neg hk1, if_pos hk2]) | (rw [okT, if_neg hk0, if_neg hk1, if_neg hk2, if_pos hk3]) | (rw [okT, if_neg hk0, if_neg hk1, if_neg hk2, if_neg hk3, if_pos hk4]) | (rw [okT, if_neg hk0, if_neg hk1, if_neg hk2, if_neg hk3, if_neg hk4, if_pos hk5]) | (rw [okT, if_neg hk0, if_neg hk1, if_neg hk2, if_neg hk3, if_neg hk4, if_neg hk5, if_pos hk6]) | (rw [okT, if_neg hk0, if_neg hk1, if_neg hk2, if_neg hk3, if_neg hk4, if_neg hk5, if_neg hk6]))), trivial⟩, ⟨rfl, rfl, rfl, rfl, rfl, trivial⟩⟩
             ·intro hc14
              have hk6 : ¬ y = 6 := by have := of_decide_eq_false hc14; omega
              refine Qk ?_
              exact ⟨⟨rfl, rfl, rfl, rfl, rfl, rfl, rfl, rfl, rfl, rfl, rfl, rfl, rfl, rfl, rfl, rfl, rfl, rfl, trivial⟩, ⟨(z5 (by first | (rw [okT, if_pos hk0]) | (rw [okT, if_neg hk0, if_pos hk1]) | (rw [okT, if_neg hk0, if_neg hk1, if_pos hk2]) | (rw [okT, if_neg hk0, if_neg hk1, if_neg hk2, if_pos hk3]) | (rw [okT, if_neg hk0, if_neg hk1, if_neg hk2, if_neg hk3, if_pos hk4]) | (rw [okT, if_neg hk0, if_neg hk1, if_neg hk2, if_neg hk3, if_neg hk4, if_pos hk5]) | (rw [okT, if_neg hk0, if_neg hk1, if_neg hk2, if_neg hk3, if_neg hk4, if_neg hk5, if_pos hk6]) | (rw [okT, if_neg hk0, if_neg hk1, if_neg hk2, if_neg hk3, if_neg hk4, if_neg hk5, if_neg hk6]))), trivial⟩, ⟨rfl, rfl, rfl, rfl, rfl, trivial⟩⟩
      ·simp only [zo]
       refine (ge)<|(Q0)<|Qn ?_
       refine zh rfl ?_ ?_
       ·intro hc15
        rw [Xz (i := 2 + i) (j := p) (by omega) hjl (by rw [hok]; simpa using hc15)]
        refine (j4) ?_
        first | rw [YQ (fun s t hs ht => by by_cases h2 : s < 2; exact hf0_2 s t h2 ht; (obtain ⟨s, rfl⟩ : ∃ r, s = 2 + r := ⟨s - 2, by omega⟩); exact hf2_2 s t (by omega) (by rw [hLt s (by omega), List.length_map, List.length_append] at ht; simpa using ht))] | skip
        exact ⟨_, rfl, yt⟩
       ·intro hc15
        have hcf : vK L (2 + i) p = true := by rw [hok]; simpa using hc15
        refine Qk<|Qp<|(gb)<|(Qm) ?_
        refine zC (arr .i64 2 (ev2 (xQ late i, y))) (Ub 141 rfl) (Uu 141 rfl) zeb rfl (by kernel_rfl) rfl ?_
        refine yl 4 (arr .i64 2 (ev2 (xQ late i, y))) (Uu 138 rfl) (Uz 141 rfl) (Ub 141 rfl) (by decide) (by decide) rfl (by kernel_rfl) rfl fun r5 => ?_
        refine yQ 50 hf3_1 (z5P _ _ (xQ late i, y)) rfl (ym 4 rfl ⟨[], trivial⟩) (Uu 138) (Uz 141) (Uy 141) (Ub 141) (by rfl) rfl rfl (zcb _) (by simp only [maxLen]; omega) (by omega) rfl fun v10_4 oz10_4 ho10_4 => ?_
        refine (jb) ?_
        refine QzL ⟨p + 1, _, _, rfl, rfl, rfl, by omega, (zw ho10_4 (by rw [ZN hjl, List.length_append, he]; rfl) (by rw [ZN hjl, ← z8f, he])), fun t ht => by by_cases e : t = p; (subst e; exact hcf); exact hf3_2 t (by omega)⟩ ⟨rfl, rfl, rfl, rfl, rfl, rfl, rfl, rfl, rfl, rfl, trivial⟩ ⟨rfl, rfl, rfl, rfl, rfl, trivial⟩ ?_
        omega
    ·have hz3 : p = ((us.getD i []).length + 1) := by omega
     refine Qe<|(gk) ?_
     refine QzL ⟨i + 1, _, _, rfl, rfl, rfl, by omega, (zw hf3_1 (by rw [hz3, hrow3]) (by rw [hz3, hrow3])), fun s t hs ht => by by_cases e : s = i; (subst e; exact hf3_2 t (by omega)); exact hf2_2 s t (by omega) ht⟩ ⟨rfl, rfl, rfl, rfl, rfl, rfl, trivial⟩ ⟨rfl, rfl, rfl, trivial⟩ ?_
     omega
  ·have hz2 : i = tvs.length := by omega
   refine Qe<|(j4) ?_
   first | rw [YQ (fun s t hs ht => by by_cases h2 : s < 2; exact hf0_2 s t h2 ht; (obtain ⟨s, rfl⟩ : ∃ r, s = 2 + r := ⟨s - 2, by omega⟩); exact hf2_2 s t (by omega) (by rw [hLt s (by omega), List.length_map, List.length_append] at ht; simpa using ht))] | skip
   exact ⟨_, rfl, yt⟩
theorem z2z {G : Mem} (base : LN) (late : Bool) (vp v0 v1 vt : Value) (tvs : List Value) (p0 p1 : List Int) (ts : List (List Int)) (hvt : Shows G 1 vt tvs.length tvs) (hLI : zm G (v0 :: v1 :: tvs) (p0 :: p1 :: ts)) : Fp G 54 #[.agg (cells 6 [pV (sv base), pV (.bool late), pV vp, pV v0, pV v1, pV vt])] (ii (zN late p0 p1 ts)) := by
 have hl : tvs.length = ts.length := (zr (zr hLI)).1
 by_cases h0 : ts.length = 0
 ·rw [zN, if_pos (.inl h0)]; exact z7w base late vp v0 v1 vt tvs hvt (by omega)
 by_cases h5 : 5 < ts.length
 ·rw [zN, if_pos (.inr h5)]; exact z7h base late vp v0 v1 vt tvs hvt (by omega)
 by_cases hf : zZ (p0 :: p1 :: ts) = 0
 ·have hz := wV hf
  have e0 := ZB (hz p0 (by simp)).2
  have e1 := ZB (hz p1 (by simp)).2
  have et : ts = (ts.map fun t => t.map Int.toNat).map ci := by
   rw [List.map_map]
   conv => lhs; rw [← List.map_id ts]
   exact List.map_congr_left fun t ht => ZB (hz t (by simp [ht])).2
  rw [zN, if_neg (by omega), if_pos hf]
  refine z6C base late vp v0 v1 vt tvs (p0.map Int.toNat) (p1.map Int.toNat) (ts.map fun t => t.map Int.toNat) hvt (by rw [← e0, ← e1, ← et]; exact hLI) (by omega) (by omega) (by rw [← e0, ← e1, ← et]; exact hf) ?_ ?_ ?_
  ·rw [List.length_map]; exact (hz p0 (by simp)).1
  ·rw [List.length_map]; exact (hz p1 (by simp)).1
  ·intro u hu
   obtain ⟨t, ht, rfl⟩ := List.mem_map.1 hu
   rw [List.length_map]; exact (hz t (by simp [ht])).1
 ·rw [zN, if_neg (by omega), if_neg hf]
  exact z64 base late vp v0 v1 vt tvs p0 p1 ts _ hvt hLI (by omega) (by omega) rfl hf
theorem zaf (b : LN) (l : Bool) (vp v0 v1 vt : Value) (fi : Bool) (tn : Int) (dd : Bool) (y : SY) (r : RS) (ow : NN) (vk : Value) (us : Int) (p0 p1 : List Int) (tvs : List Value) (ts : List (List Int)) (hvt : Shows G 1 vt tvs.length tvs) (hLI : zm G (v0 :: v1 :: tvs) (p0 :: p1 :: ts)) (hbad : ((((dd || decide (tn < 0)) || decide ((tvs.length : Int) ≤ tn)) || decide (us < 0)) || decide (((zN l p0 p1 ts : Nat) : Int) ≠ 0)) = true) : Fp G 31 #[.agg (shC b l vp v0 v1 vt fi tn dd y ow r vk us)] (.tuple #[.bool false, .bool false]) := by
 refine Qf2 Tryz.func31 ?_
 refine (g4)<|(Qh 0) fun r1=>(g8)<|(gs) ?_
 refine yd [(0, _), (1, _), (2, _), (3, _)] [(31, .bool ((((dd || decide (tn < 0)) || decide ((tvs.length : Int) ≤ tn)) || decide (us < 0)) || decide (((zN l p0 p1 ts : Nat) : Int) ≠ 0)))] [(0, some _)] ⟨rfl, rfl, rfl, rfl, trivial⟩ ⟨rfl, trivial⟩ ?_ ?_
 ·skip
  refine (Qf 8)<|(QV 8 0)<|(Qm) ?_
  refine zn (b := dd) (fun hb0 => ?_) (fun hb0 => ?_)
  ·skip
   refine (gx)<|(QT)<|(j6)<|(gx)<|(QT)<|(Qm)<|(gx)<|(QT)<|(j6)<|(QT)<|Qn ?_
   exact ⟨⟨rfl, rfl, rfl, rfl, trivial⟩, ⟨z5 (by rw [hb0] <;> rfl), trivial⟩, ⟨rfl, trivial⟩⟩
  ·skip
   refine (Qy)<|(Qf 7)<|(Qy)<|(QV 7 0)<|(Qy)<|(Ql)<|(QF)<|(Qm) ?_
   refine zn (b := decide (tn < 0)) (fun hb1 => ?_) (fun hb1 => ?_)
   ·skip
    refine (gg)<|(gx)<|(QT)<|(Qm)<|(gx)<|(QT)<|(j6)<|(QT)<|Qn ?_
    exact ⟨⟨rfl, rfl, rfl, rfl, trivial⟩, ⟨z5 (by rw [hb0, hb1] <;> rfl), trivial⟩, ⟨rfl, trivial⟩⟩
   ·skip
    refine (Qy)<|(Qf 7)<|(Qy)<|(QV 7 0)<|(Qy)<|(Qf 0)<|(Qy)<|(Qf 5)<|(Qy)<|(QV 5 0)<|(Qy)<|(QC hvt)<|(Qy)<|(QE)<|(QF)<|(Qm) ?_
    refine zn (b := decide ((tvs.length : Int) ≤ tn)) (fun hb2 => ?_) (fun hb2 => ?_)
    ·skip
     refine (gx)<|(QT)<|(j6)<|(QT)<|Qn ?_
     exact ⟨⟨rfl, rfl, rfl, rfl, trivial⟩, ⟨z5 (by rw [hb0, hb1, hb2] <;> rfl), trivial⟩, ⟨rfl, trivial⟩⟩
    ·skip
     refine (Qy)<|(Qf 239)<|(Qy)<|(QV 22 0)<|(Qy)<|(Ql)<|(QF)<|(Qm) ?_
     refine zn (b := decide (us < 0)) (fun hb3 => ?_) (fun hb3 => ?_)
     ·skip
      refine (gg)<|(QT)<|Qn ?_
      exact ⟨⟨rfl, rfl, rfl, rfl, trivial⟩, ⟨z5 (by rw [hb0, hb1, hb2, hb3] <;> rfl), trivial⟩, ⟨rfl, trivial⟩⟩
     ·skip
      refine (Qy)<|(Qf 0)<|(Qy)<|(QlK 0 0 6)<|(Qy) ?_
      refine (Ca (z2z b l vp v0 v1 vt tvs p0 p1 ts hvt hLI))<|(Qy)<|(QN)<|(QF)<|Qn ?_
      exact ⟨⟨rfl, rfl, rfl, rfl, trivial⟩, ⟨z5 (by rw [hb0, hb1, hb2, hb3] <;> rfl), trivial⟩, ⟨rfl, trivial⟩⟩
 ·simp only [zo]
  refine zh rfl ?_ ?_
  ·intro hc0
   refine (g4)<|(gy) ?_
   exact ⟨_, _, rfl, yt, yt⟩
  ·intro hc0
   rw [hbad] at hc0
   cases hc0
theorem YS (b : LN) (l : Bool) (vp v0 v1 vt : Value) (fi : Bool) (tq : Nat) (dd : Bool) (y : SY) (r : RS) (ow : NN) (vk : Value) (us : Int) (p0 p1 : List Int) (tvs : List Value) (ts : List (List Int)) (hvt : Shows G 1 vt tvs.length tvs) (hLI : zm G (v0 :: v1 :: tvs) (p0 :: p1 :: ts)) (hbad : ((((dd || decide (((tq : Nat) : Int) < 0)) || decide ((tvs.length : Int) ≤ ((tq : Nat) : Int))) || decide (us < 0)) || decide (((zN l p0 p1 ts : Nat) : Int) ≠ 0)) = false) : Fp G 31 #[.agg (shC b l vp v0 v1 vt fi ((tq : Nat) : Int) dd y ow r vk us)] (.tuple #[.bool ((decide (((tq % 2 : Nat) : Int) = 0) != l) == fi), .bool true]) := by
 refine Qf2 Tryz.func31 ?_
 refine (g4)<|(Qh 0) fun r1=>(g8)<|(gs) ?_
 refine yd [(0, _), (1, _), (2, _), (3, _)] [(31, .bool ((((dd || decide (((tq : Nat) : Int) < 0)) || decide ((tvs.length : Int) ≤ ((tq : Nat) : Int))) || decide (us < 0)) || decide (((zN l p0 p1 ts : Nat) : Int) ≠ 0)))] [(0, some _)] ⟨rfl, rfl, rfl, rfl, trivial⟩ ⟨rfl, trivial⟩ ?_ ?_
 ·skip
  refine (Qf 8)<|(QV 8 0)<|(Qm) ?_
  refine zn (b := dd) (fun hb0 => ?_) (fun hb0 => ?_)
  ·skip
   refine (gx)<|(QT)<|(j6)<|(gx)<|(QT)<|(Qm)<|(gx)<|(QT)<|(j6)<|(QT)<|Qn ?_
   exact ⟨⟨rfl, rfl, rfl, rfl, trivial⟩, ⟨z5 (by rw [hb0] <;> rfl), trivial⟩, ⟨rfl, trivial⟩⟩
  ·skip
   refine (Qy)<|(Qf 7)<|(Qy)<|(QV 7 0)<|(Qy)<|(Ql)<|(QF)<|(Qm) ?_
   refine zn (b := decide (((tq : Nat) : Int) < 0)) (fun hb1 => ?_) (fun hb1 => ?_)
   ·skip
    refine (gg)<|(gx)<|(QT)<|(Qm)<|(gx)<|(QT)<|(j6)<|(QT)<|Qn ?_
    exact ⟨⟨rfl, rfl, rfl, rfl, trivial⟩, ⟨z5 (by rw [hb0, hb1] <;> rfl), trivial⟩, ⟨rfl, trivial⟩⟩
   ·skip
    refine (Qy)<|(Qf 7)<|(Qy)<|(QV 7 0)<|(Qy)<|(Qf 0)<|(Qy)<|(Qf 5)<|(Qy)<|(QV 5 0)<|(Qy)<|(QC hvt)<|(Qy)<|(QE)<|(QF)<|(Qm) ?_
    refine zn (b := decide ((tvs.length : Int) ≤ ((tq : Nat) : Int))) (fun hb2 => ?_) (fun hb2 => ?_)
    ·skip
     refine (gx)<|(QT)<|(j6)<|(QT)<|Qn ?_
     exact ⟨⟨rfl, rfl, rfl, rfl, trivial⟩, ⟨z5 (by rw [hb0, hb1, hb2] <;> rfl), trivial⟩, ⟨rfl, trivial⟩⟩
    ·skip
     refine (Qy)<|(Qf 239)<|(Qy)<|(QV 22 0)<|(Qy)<|(Ql)<|(QF)<|(Qm) ?_
     refine zn (b := decide (us < 0)) (fun hb3 => ?_) (fun hb3 => ?_)
     ·skip
      refine (gg)<|(QT)<|Qn ?_
      exact ⟨⟨rfl, rfl, rfl, rfl, trivial⟩, ⟨z5 (by rw [hb0, hb1, hb2, hb3] <;> rfl), trivial⟩, ⟨rfl, trivial⟩⟩
     ·skip
      refine (Qy)<|(Qf 0)<|(Qy)<|(QlK 0 0 6)<|(Qy) ?_
      refine (Ca (z2z b l vp v0 v1 vt tvs p0 p1 ts hvt hLI))<|(Qy)<|(QN)<|(QF)<|Qn ?_
      exact ⟨⟨rfl, rfl, rfl, rfl, trivial⟩, ⟨z5 (by rw [hb0, hb1, hb2, hb3] <;> rfl), trivial⟩, ⟨rfl, trivial⟩⟩
 ·simp only [zo]
  refine zh rfl ?_ ?_
  ·intro hc0
   rw [hbad] at hc0
   cases hc0
  ·intro hc0
   refine Qk<|(g4)<|(Qf 7)<|(QV 7 0)<|(Q4 2)<|(Qc)<|(g3)<|(gs)<|(Qf 0)<|(Qf 1)<|(QV 1 0)<|Qn ?_
   refine zh rfl ?_ ?_
   ·intro hc1
    obtain rfl : l = true := hc1
    rw [show ∀ x : Bool, (x != true) = !x by decide]
    refine (j0)<|(Q0)<|(go)<|(Qf 6)<|(QV 6 0) ?_
    refine XI (Uu 4) rfl rfl rfl ?_
    refine (gy) ?_
    exact ⟨_, _, rfl, yt, yt⟩
   ·intro hc1
    obtain rfl : l = false := hc1
    rw [show ∀ x : Bool, (x != false) = x by decide]
    refine Qk<|(g6)<|(Qf 6)<|(QV 6 0) ?_
    refine XI (Uu 4) rfl rfl rfl ?_
    refine (gy) ?_
    exact ⟨_, _, rfl, yt, yt⟩
end Go.Proofs.YtlidhfijmcelpaaGreatDoor
