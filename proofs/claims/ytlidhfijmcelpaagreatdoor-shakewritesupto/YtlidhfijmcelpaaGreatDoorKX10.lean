import Derived.Test.YtlidhfijmcelpaaGreatDoorKX9
set_option maxHeartbeats 8000000
set_option maxRecDepth 30000
attribute [local simp] Go.Proofs.YtlidhfijmcelpaaGreatDoor.By Go.Proofs.YtlidhfijmcelpaaGreatDoor.L8
namespace Go.Proofs.YtlidhfijmcelpaaGreatDoor
open Go Go.RowKit
variable {G : Mem}
theorem z7U (a b c d : Nat) (ha : a < 18446744073709551616) (hb : b < 18446744073709551616) (hc : c < 18446744073709551616) (hd : d < 18446744073709551616) : Fp G 249 #[u a, u b, u c, u d] (.tuple #[u ((a * b + c + d) % 18446744073709551616), u ((a * b + c + d) / 18446744073709551616)]) := by
 have hp := z2J ha hb
 refine Qf2 Tryz.func249 ?_
 refine (g4)<|(g8)<|(g6)<|(Qm) ?_
 refine zd rfl (Un 256) (z61 _ _ (by omega) (by omega)) rfl rfl ?_
 refine (gi)<|(g8)<|(g6)<|(Qm) ?_
 refine Z6 rfl (fun w => z2l _ _ 0 (by omega) w) rfl rfl ?_
 refine (gi)<|(g8)<|(g6)<|(Qm)<|(Qau)<|(gm)<|(Qm) ?_
 refine Z6 rfl (fun w => z2l _ _ 0 (by omega) w) rfl rfl ?_
 refine (gi)<|(g8)<|(g6)<|(gb)<|(Qau)<|(h8) ?_
 rw [← z8b, ← z8O _ _ _ hp hc hd]
 exact ⟨_, _, rfl, yt, yt⟩
theorem zh1 (a b : Nat) (ha : a < 2 ^ 256) (hb : b < 2 ^ 256) : Fp G 248 #[fe a, fe b] (.agg (arr .u64 8 (wd (a * b)))) := by
 refine Qf1 Tryz.func248 ?_
 refine (g4)<|(Qh 0) fun r1=>(Qh 1) fun r2=>(QH 2) fun r3=>(gj)<|(QH 3) fun r4=>Qn<|(ji) ?_
 refine Qz (fun kk E m => ∃ (k : Nat) (s : Nat → Nat), kk = 4 - k ∧ E = [(2, ptr r1), (3, ptr r2), (4, ptr r3), (5, ptr r4), (9, ii k)] ∧ m = [(0, some ⟨r1, arr .u64 4 (wd a), 127⟩), (1, some ⟨r2, arr .u64 4 (wd b), 127⟩), (2, some ⟨r3, arr .u64 8 (fun _ => 0), 300⟩), (3, some ⟨r4, arr .u64 8 s, 300⟩)] ∧ (k ≤ 4) ∧ (∀ t, t < 8 → s t = wd (a % 2 ^ (64 * k) * b) t)) ⟨0, fun _ => 0, rfl, rfl, rfl, by omega, fun t _ => by simp [Nat.mod_one, wd]⟩ ⟨rfl, rfl, rfl, rfl, rfl, trivial⟩ ⟨rfl, rfl, rfl, rfl, trivial⟩ ?_
 rintro kk E m ⟨k, s, rfl, rfl, rfl, hf0_0, hf0_1⟩
 refine (gq) ?_
 refine (Qcd) (fun hc0=>?_) fun hc0=>?_
 ·refine Qk<|Qs<|Qb<|Qs<|Qp<|(Qm)<|(Qa)<|Qn<|Qs<|Qp<|(Qa)<|Qn<|Qs<|Qs<|Qp<|(Qm)<|Qn<|Qb ?_
  refine Qz (fun kk E m => ∃ (j : Nat) (s2 : Nat → Nat), kk = 4 - j ∧ E = [(2, ptr r1), (3, ptr r2), (4, ptr r3), (5, ptr r4), (9, ii k), (6, ii k), (7, u (wO a b k j)), (12, ii j)] ∧ m = [(0, some ⟨r1, arr .u64 4 (wd a), 127⟩), (1, some ⟨r2, arr .u64 4 (wd b), 127⟩), (2, some ⟨r3, arr .u64 8 (fun _ => 0), 300⟩), (3, some ⟨r4, arr .u64 8 s2, 300⟩)] ∧ (j ≤ 4) ∧ (∀ t, t < k + j → s2 t = wd (wS a b k j) t) ∧ (∀ t, k + j ≤ t → t < 8 → s2 t = wd (a % 2 ^ (64 * k) * b) t)) ⟨0, s, rfl, rfl, rfl, by omega, fun t ht => (hf0_1 t (by omega)).trans (z8o a b k t (by omega)).symm, fun t _ ht => hf0_1 t ht⟩ ⟨rfl, rfl, rfl, rfl, rfl, rfl, by rw [z3f]; rfl, rfl, trivial⟩ ⟨rfl, rfl, rfl, rfl, trivial⟩ ?_
  rintro kk E m ⟨j, s2, rfl, rfl, rfl, hf1_0, hf1_1, hf1_2⟩
  have ha1 := y9 a k
  have hb1 := y9 b j
  have ho1 := zij a b k j (by omega)
  have hs2 : (j : Int) < 4 → s2 (k + j) = wd (a % 2 ^ (64 * k) * b) (k + j) := fun h => hf1_2 (k + j) (by omega) (by omega)
  refine (gq) ?_
  refine (Qcd) (fun hc1=>?_) fun hc1=>?_
  ·refine Qk<|Qs<|Qb<|Qs<|Qp<|(Qm)<|(Qa)<|Qn<|(Qg)<|(Qm)<|(Qm)<|(Q3)<|(Qm)<|(Qi)<|(Q1 0)<|(Qm)<|(Qi)<|(Q1 1)<|(Qm)<|(Qm)<|(Q3)<|(Qi)<|(Q1 3)<|(Qm) ?_
   have hs3 := y9 (a % 2 ^ (64 * k) * b) (k + j); have hs4 := hs2 hc1
   refine zd rfl (Un 249) (z7U _ _ _ _ (by omega) (by omega) (by omega) (by omega)) rfl rfl ?_
   refine (gi)<|(Qi)<|(Qu 3)<|(jb) ?_
   refine Qzr ⟨j + 1, upd s2 (k + j) _, rfl, rfl, rfl, by omega, by rw [hs2 hc1]; exact z1M hf1_1, fun t h1 h2 => by rw [← hf1_2 t (by omega) h2]; unfold upd; rw [if_neg (by omega)]⟩ ⟨rfl, rfl, rfl, rfl, rfl, rfl, by rw [← z2N, ← hs2 hc1]; rfl, rfl, trivial⟩ ⟨rfl, rfl, rfl, rfl, trivial⟩ ?_
   omega
  ·have hj4 : j = 4 := by omega
   subst hj4
   refine Qe<|(je)<|(Q2 4)<|(Qm)<|(Qi)<|(Qu 3)<|(jc) ?_
   refine Qzr ⟨k + 1, upd s2 (k + 4) _, rfl, rfl, rfl, by omega, z9w hb hf1_1 hf1_2⟩ ⟨rfl, rfl, rfl, rfl, rfl, trivial⟩ ⟨rfl, rfl, rfl, rfl, trivial⟩ ?_
   omega
 ·refine Qe<|Qs<|Qp<|(Qd 3)<|(Qt 2)<|Qn<|Qr ?_
  have hk4 : k = 4 := by omega
  subst hk4
  rw [Nat.mod_eq_of_lt (show a < 2 ^ (64 * 4) from ha)] at hf0_1
  rw [← zh hf0_1]
  exact ⟨_, rfl, ya 2⟩
theorem X8 (a b : Nat) (ha : a < 2 ^ 256) (hb : b < 2 ^ 256) : Fp G 233 #[fe a, fe b] (fe (a * b % PP)) := by
 refine Qf1 Tryz.func233 ?_
 refine (g4)<|(Qh 0) fun r1=>(Qh 1) fun r2=>(QH 2) fun r3=>(gj)<|(Qd 0)<|(Qd 1) ?_
 refine zd rfl (Un 248) (zh1 _ _ (by omega) (by omega)) rfl rfl ?_
 refine (QH 3) fun r4=>(Qt 3)<|(gj)<|(QH 4) fun r5=>Qn<|(gc)<|(ji) ?_
 refine Qz (fun kk E m => ∃ (k : Nat) (s : Nat → Nat), kk = 4 - k ∧ E = [(4, ptr r3), (5, ptr r4), (6, ptr r5), (7, u (pS (a * b) k / 2 ^ (64 * k))), (12, ii k)] ∧ m = [(0, some ⟨r1, arr .u64 4 (wd a), 127⟩), (1, some ⟨r2, arr .u64 4 (wd b), 127⟩), (2, some ⟨r3, arr .u64 4 (fun _ => 0), 127⟩), (3, some ⟨r4, arr .u64 8 (wd (a * b)), 300⟩), (4, some ⟨r5, arr .u64 4 s, 127⟩)] ∧ (k ≤ 4) ∧ (∀ t, t < k → s t = wd (pS (a * b) k) t)) ⟨0, fun _ => 0, rfl, rfl, rfl, by omega, fun t ht => absurd ht (Nat.not_lt_zero t)⟩ ⟨rfl, rfl, rfl, by rw [zgM]; rfl, rfl, trivial⟩ ⟨rfl, rfl, rfl, rfl, rfl, trivial⟩ ?_
 rintro kk E m ⟨k, s, rfl, rfl, rfl, hf0_0, hf0_1⟩
 have hw1 := y9 (a * b) k
 have hw2 := y9 (a * b) (k + 4)
 have hov := zjW (a * b) k
 refine (gq) ?_
 refine (Qcd) (fun hc0=>?_) fun hc0=>?_
 ·refine Qk<|Qs<|Qb<|Qs<|Qp<|(Qm)<|(Qa)<|Qn<|(Qq ⟨[r5], 1, [], none, none⟩)<|(Qm)<|(Qm)<|(Q2 4)<|(Qi) ?_
  refine y7 (i := 3) (Uu 31) rfl rfl rfl (zO (by omega)) rfl ⟨[4], rfl, rfl, trivial⟩ ?_
  refine (Qm)<|(Qi) ?_
  refine y7 (i := 3) (Uu 31) rfl rfl rfl (zO (by omega)) rfl ⟨[4], rfl, rfl, trivial⟩ ?_
  refine (Qm) ?_
  refine zd rfl (Un 249) (z7U _ 38 _ _ (by omega) (by omega) (by omega) (by omega)) rfl rfl ?_
  refine (gi)<|(Qi) ?_
  refine xT (i := 4) (Uz 31) rfl rfl rfl (by omega) (.inr (by simp)) ?_
  refine (jb) ?_
  refine Qzr ⟨k + 1, upd s k _, rfl, rfl, rfl, by omega, zjF hf0_1⟩ ⟨rfl, rfl, rfl, by rw [← zks]; rfl, rfl, trivial⟩ ⟨rfl, rfl, rfl, rfl, rfl, trivial⟩ ?_
  omega
 ·have hk4 : k = 4 := by omega
  subst hk4
  refine (jo)<|(Qd 4) ?_
  refine z6 (z0h (fun j hj => (hf0_1 j hj).trans (WJ _ j hj).symm)).symm ?_
  refine (Qm) ?_
  refine zd rfl (Un 180) (z3G _ _ (Nat.mod_lt _ (Nat.pow_pos (by decide))) (by omega)) rfl rfl ?_
  refine (Qt 2)<|Qn<|Qr ?_
  rw [← zjS (a * b) (z9F ha hb)]
  exact ⟨_, rfl, ya 2⟩
theorem z6D (a : Nat) (ha : a < 2 ^ 256) : Fp G 215 #[fe a] (fe (a ^ EE % PP)) := by
 have hPP := Ym
 refine Qf1 Tryz.func215 ?_
 refine (g4)<|(Qh 0) fun r1=>(QH 1) fun r2=>(gj) ?_
 refine zV (arr .u64 4 (upd (fun _ => 0) 0 1)) (Ub 127 rfl) (Uu 127 rfl) (Uz 31 rfl) rfl rfl rfl ?_
 refine z6 (z0d 1 (by decide)) ?_
 refine (QH 2) fun r3=>(Qt 2)<|Qn<|Qs<|(gc)<|Qb ?_
 refine Qz (fun kk E m => ∃ (k : Nat) (pw : Nat), kk = 255 - k ∧ E = [(1, ptr r1), (2, ptr r2), (3, ptr r3), (4, .int .i64 (254 - (k : Nat)))] ∧ m = [(0, some ⟨r1, arr .u64 4 (wd a), 127⟩), (1, some ⟨r2, arr .u64 4 (fun _ => 0), 127⟩), (2, some ⟨r3, arr .u64 4 (wd pw), 127⟩)] ∧ (k ≤ 255) ∧ (pw = a ^ (EE / 2 ^ (255 - k)) % PP)) ⟨0, 1, rfl, rfl, rfl, by omega, zbs a⟩ ⟨rfl, rfl, rfl, rfl, trivial⟩ ⟨rfl, rfl, rfl, trivial⟩ ?_
 rintro kk E m ⟨k, pw, rfl, rfl, rfl, hf0_0, hf0_1⟩
 have hpw : pw < 2 ^ 256 := by have := Nat.mod_lt (a ^ (EE / 2 ^ (255 - k))) (show 0 < PP by decide); omega
 have hq := Nat.mod_lt (pw * pw) (show 0 < PP by decide)
 refine (ge)<|(QE)<|Qn ?_
 refine (Qcd) (fun hc0=>?_) fun hc0=>?_
 ·refine Qk<|Qs<|Qb<|Qs<|Qp<|(Qd 2)<|(Qd 2) ?_
  refine zd rfl (Un 233) (X8 _ _ (by omega) (by omega)) rfl rfl ?_
  refine (Qt 2)<|Qn ?_
  rcases (show (k = 252 ∨ k = 250) ∨ ¬ (k = 252 ∨ k = 250) by omega) with (h252 | h250) | hno
  ·skip
   refine (g6)<|(QN)<|(Qaf)<|(Qm)<|(g5)<|(QF)<|(go)<|(je) ?_
   refine xG (q := 1) rfl rfl rfl (by omega) (by omega) ?_
   refine (g3) ?_
   refine Qzr ⟨k + 1, _, rfl, rfl, rfl, by omega, z4u a k pw (by omega) (.inl h252) hf0_1⟩ ⟨rfl, rfl, rfl, congrArg (fun z => some (Value.int .i64 z)) (show (254 - (k : Int) - 1) = 254 - ((k + 1 : Nat) : Int) by omega), trivial⟩ ⟨rfl, rfl, rfl, trivial⟩ ?_
   omega
  ·skip
   refine (g6)<|(QN)<|(Qat)<|(gn)<|(QN)<|(Qaf)<|(QT)<|(go)<|(je) ?_
   refine xG (q := 1) rfl rfl rfl (by omega) (by omega) ?_
   refine (g3) ?_
   refine Qzr ⟨k + 1, _, rfl, rfl, rfl, by omega, z4u a k pw (by omega) (.inr h250) hf0_1⟩ ⟨rfl, rfl, rfl, congrArg (fun z => some (Value.int .i64 z)) (show (254 - (k : Int) - 1) = 254 - ((k + 1 : Nat) : Int) by omega), trivial⟩ ⟨rfl, rfl, rfl, trivial⟩ ?_
   omega
  ·skip
   refine (g6)<|(QN)<|(Qat)<|(gn)<|(QN)<|(Qat)<|(QT)<|(gv)<|Qp<|(Qd 2)<|(Qd 0) ?_
   refine zd rfl (Un 233) (X8 _ _ (by omega) (by omega)) rfl rfl ?_
   refine (Qt 2)<|Qn<|(je) ?_
   refine xG (q := 1) rfl rfl rfl (by omega) (by omega) ?_
   refine (g3) ?_
   refine Qzr ⟨k + 1, _, rfl, rfl, rfl, by omega, zfE a k pw (by omega) hno hf0_1⟩ ⟨rfl, rfl, rfl, congrArg (fun z => some (Value.int .i64 z)) (show (254 - (k : Int) - 1) = 254 - ((k + 1 : Nat) : Int) by omega), trivial⟩ ⟨rfl, rfl, rfl, trivial⟩ ?_
   omega
 ·have hk : k = 255 := by omega
  subst hk
  refine (jo)<|(Qd 2)<|(j4)<|Qr ?_
  rw [zdE] at hf0_1
  rw [← hf0_1]
  exact ⟨_, rfl, ya 1⟩
theorem zjC (a b : Nat) (ha : a < PP) (hb : b < PP) : Fp G 231 #[fe a, fe b] (.tuple #[fe ((a + b) % PP), ii 0]) := by
 have hPP := Ym
 refine Qf2 Tryz.func231 ?_
 refine (g4)<|(Qh 0) fun r1=>(Qh 1) fun r2=>(QH 2) fun r3=>(g3)<|(gs)<|(Qd 0) ?_
 refine zd rfl (Un 214) (wT _ (by omega)) rfl rfl ?_
 refine (Q0) ?_
 refine (Ab (show (!decide (a < PP)) = false by simp [ha]))<|(g7)<|(Qd 1)<|(Qy) ?_
 refine zd rfl (Un 214) (wT _ (by omega)) rfl rfl ?_
 refine (Qy)<|(Q0) ?_
 refine (Ab (show (!decide (b < PP)) = false by simp [hb]))<|(QF)<|(go)<|(g4)<|(Qd 0)<|(Qd 1) ?_
 refine zd rfl (Un 207) (VA _ _ (by omega) (by omega)) rfl rfl ?_
 refine (Qm)<|(Qx) ?_
 refine z6 (congrArg fe (Nat.mod_eq_of_lt (show a + b < 2 ^ 256 by omega))) ?_
 refine (Qx)<|(QH 3) fun r4=>(Qt 3)<|(j3)<|(Qd 3) ?_
 refine zd rfl (Un 180) (z3G _ 0 (by omega) (by omega)) rfl rfl ?_
 refine (Qt 2)<|(gt) ?_
 rw [show (a + b) % PP = (a + b + 0 * 2 ^ 256) % PP by rw [Nat.zero_mul, Nat.add_zero]]
 exact ⟨_, _, rfl, ya 2, yt⟩
theorem zjk (a b : Nat) (ha : a < PP) (hb : b < PP) : Fp G 232 #[fe a, fe b] (.tuple #[fe ((a + PP - b) % PP), ii 0]) := by
 have hPP := Ym
 obtain ⟨t, ht⟩ : ∃ t, t = (if a < b then 1 else 0) := ⟨_, rfl⟩
 have hb1 : t ≤ 1 := by rw [ht]; split <;> omega
 have hb2 : PP * t < 2 ^ 256 := by rw [hPP]; omega
 have hm1 := Nat.mod_lt (a + 2 ^ 256 - b) (show 0 < 2 ^ 256 from Nat.pow_pos (by decide))
 refine Qf2 Tryz.func232 ?_
 refine (g4)<|(Qh 0) fun r1=>(Qh 1) fun r2=>(QH 2) fun r3=>(g3)<|(gs)<|(Qd 0) ?_
 refine zd rfl (Un 214) (wT _ (by omega)) rfl rfl ?_
 refine (Q0) ?_
 refine (Ab (show (!decide (a < PP)) = false by simp [ha]))<|(g7)<|(Qd 1)<|(Qy) ?_
 refine zd rfl (Un 214) (wT _ (by omega)) rfl rfl ?_
 refine (Qy)<|(Q0) ?_
 refine (Ab (show (!decide (b < PP)) = false by simp [hb]))<|(QF)<|(go)<|(g4)<|(Qd 0)<|(Qd 1) ?_
 refine zd rfl (Un 208) (z0q _ _ (by omega) (by omega)) rfl rfl ?_
 refine (gi) ?_
 refine (Au ht.symm)<|(QH 3) fun r4=>(Qt 3)<|(g3)<|(gr)<|(Qd 3) ?_
 refine (Ca XD)<|(Qm) ?_
 refine zd rfl (Un 210) (z42 _ _ (by omega)) rfl rfl ?_
 refine zd rfl (Un 207) (VA _ _ (by omega) (by omega)) rfl rfl ?_
 refine (gi)<|(Qt 3)<|(gj)<|(Qd 3)<|(Qt 2)<|(gt) ?_
 rw [← zhz a b ha hb, ← ht]
 exact ⟨_, _, rfl, ya 2, yt⟩
theorem zjT (a b : Nat) (ha : a < PP) (hb : b < PP) : Fp G 216 #[fe a, fe b] (.tuple #[fe (a * b % PP), ii 0]) := by
 have hPP := Ym
 refine Qf2 Tryz.func216 ?_
 refine (g4)<|(Qh 0) fun r1=>(Qh 1) fun r2=>(QH 2) fun r3=>(g3)<|(gs)<|(Qd 0) ?_
 refine zd rfl (Un 214) (wT _ (by omega)) rfl rfl ?_
 refine (Q0) ?_
 refine (Ab (show (!decide (a < PP)) = false by simp [ha]))<|(g7)<|(Qd 1)<|(Qy) ?_
 refine zd rfl (Un 214) (wT _ (by omega)) rfl rfl ?_
 refine (Qy)<|(Q0) ?_
 refine (Ab (show (!decide (b < PP)) = false by simp [hb]))<|(QF)<|(go)<|(g4)<|(Qd 0)<|(Qd 1) ?_
 refine zd rfl (Un 233) (X8 _ _ (by omega) (by omega)) rfl rfl ?_
 refine (Qt 2)<|(gt) ?_
 exact ⟨_, _, rfl, ya 2, yt⟩
theorem zji (a : Nat) (ha : a < PP) : Fp G 184 #[fe a] (.tuple #[fe (a ^ EE % PP), ii 0]) := by
 have hPP := Ym
 refine Qf2 Tryz.func184 ?_
 refine (g4)<|(Qh 0) fun r1=>(QH 1) fun r2=>(g3)<|(gs)<|(Qd 0) ?_
 refine zd rfl (Un 214) (wT _ (by omega)) rfl rfl ?_
 refine (Q0) ?_
 refine (Ab (show (!decide (a < PP)) = false by simp [ha]))<|(go)<|(g4)<|(Qd 0) ?_
 refine zd rfl (Un 215) (z6D _ (by omega)) rfl rfl ?_
 refine (Qt 1)<|(gt) ?_
 exact ⟨_, _, rfl, ya 1, yt⟩
theorem XZ (a b : Nat) (ha : a < PP) (hb : b < PP) : Fp G 212 #[fe a, fe b] (fe ((a + b) % PP)) := by
 refine Qf1 Tryz.func212 ?_
 refine (g4)<|(Qh 0) fun r1=>(Qh 1) fun r2=>(QH 2) fun r3=>(gj)<|(Qd 0)<|(Qd 1) ?_
 refine (Ca (zjC a b ha hb))<|(gi)<|(QH 3) fun r4=>(Qt 3)<|(j3)<|(Qd 3)<|(Qt 2)<|Qn<|Qr ?_
 exact ⟨_, rfl, ya 2⟩
theorem Wo (a b : Nat) (ha : a < PP) (hb : b < PP) : Fp G 213 #[fe a, fe b] (fe ((a + PP - b) % PP)) := by
 refine Qf1 Tryz.func213 ?_
 refine (g4)<|(Qh 0) fun r1=>(Qh 1) fun r2=>(QH 2) fun r3=>(gj)<|(Qd 0)<|(Qd 1) ?_
 refine (Ca (zjk a b ha hb))<|(gi)<|(QH 3) fun r4=>(Qt 3)<|(j3)<|(Qd 3)<|(Qt 2)<|Qn<|Qr ?_
 exact ⟨_, rfl, ya 2⟩
theorem Z3 (a b : Nat) (ha : a < PP) (hb : b < PP) : Fp G 186 #[fe a, fe b] (fe (a * b % PP)) := by
 refine Qf1 Tryz.func186 ?_
 refine (g4)<|(Qh 0) fun r1=>(Qh 1) fun r2=>(QH 2) fun r3=>(gj)<|(Qd 0)<|(Qd 1) ?_
 refine (Ca (zjT a b ha hb))<|(gi)<|(QH 3) fun r4=>(Qt 3)<|(j3)<|(Qd 3)<|(Qt 2)<|Qn<|Qr ?_
 exact ⟨_, rfl, ya 2⟩
theorem ZA (a : Nat) (ha : a < PP) : Fp G 211 #[fe a] (fe (a * a % PP)) := by
 refine Qf1 Tryz.func211 ?_
 refine (g4)<|(Qh 0) fun r1=>(QH 1) fun r2=>(gj)<|(Qd 0)<|(Qd 0) ?_
 refine (Ca (Z3 a a ha ha))<|(j4)<|Qr ?_
 exact ⟨_, rfl, ya 1⟩
theorem zfl (p : Nat × Nat) (h : Lt2 p) : Fp G 182 #[ptv p] (ptv (XH p)) := by
 obtain ⟨pl, hpl⟩ : ∃ pl, pl = (p.1 + p.2) % PP * ((p.1 + p.2) % PP) % PP := ⟨_, rfl⟩
 have hplL : pl < PP := by rw [hpl]; exact Nat.mod_lt _ (by decide)
 obtain ⟨mi, hmi⟩ : ∃ mi, mi = (p.1 + PP - p.2) % PP * ((p.1 + PP - p.2) % PP) % PP := ⟨_, rfl⟩
 have hmiL : mi < PP := by rw [hmi]; exact Nat.mod_lt _ (by decide)
 obtain ⟨re, hre⟩ : ∃ re, re = (pl + PP - mi) % PP := ⟨_, rfl⟩
 have hreL : re < PP := by rw [hre]; exact Nat.mod_lt _ (by decide)
 refine Qf1 Tryz.func182 ?_
 refine (g4)<|(Qh 0) fun r1=>(QH 1) fun r2=>(gj)<|(QA 0 0)<|(Qls 0) ?_
 refine z6 (zcd _) ?_
 refine (QA 4 1)<|(Qls 0) ?_
 refine z6 (zcA _) ?_
 refine (Ca (XZ _ _ h.1 h.2)) ?_
 refine zd rfl (Un 211) (ZA _ (Nat.mod_lt _ (by decide))) rfl rfl ?_
 refine z6 (congrArg fe hpl.symm) ?_
 refine (QH 2) fun r3=>(Qt 2)<|(gj)<|(QA 0 0)<|(Qls 0) ?_
 refine z6 (zcd _) ?_
 refine (QA 4 1)<|(Qls 0) ?_
 refine z6 (zcA _) ?_
 refine (Ca (Wo _ _ h.1 h.2)) ?_
 refine zd rfl (Un 211) (ZA _ (Nat.mod_lt _ (by decide))) rfl rfl ?_
 refine z6 (congrArg fe hmi.symm) ?_
 refine (QH 3) fun r4=>(Qt 3)<|(gj)<|(Qd 2)<|(Qd 3) ?_
 refine (Ca (Wo _ _ hplL hmiL)) ?_
 refine z6 (congrArg fe hre.symm) ?_
 refine (QH 4) fun r5=>(Qt 4)<|(jf)<|(Qd 2)<|(Qd 3) ?_
 refine (Ca (Z3 _ _ hplL hmiL)) ?_
 refine z6 (congrArg fe (zkc h.2 hpl hmi)) ?_
 refine (Qd 4)<|(Qd 2) ?_
 refine zV (arr .u64 4 (upd (fun _ => 0) 0 121665)) (Ub 127 rfl) (Uu 127 rfl) (Uz 31 rfl) rfl rfl rfl ?_
 refine z6 (z0d 121665 (by decide)) ?_
 refine (Qd 4) ?_
 refine zd rfl (Un 186) (Z3 _ _ (by decide) hreL) rfl rfl ?_
 refine zd rfl (Un 212) (XZ _ _ hplL (Nat.mod_lt _ (by decide))) rfl rfl ?_
 refine zd rfl (Un 186) (Z3 _ _ hreL (Nat.mod_lt _ (by decide))) rfl rfl ?_
 refine z6 (congrArg fe (zkm h.2 hpl hmi hre)) ?_
 refine wn _ (Ub 186 rfl) (Uu 186 rfl) (Uz 127 rfl) rfl (VE _ _) rfl ?_
 refine (j4)<|Qr ?_
 exact ⟨_, rfl, ya 1⟩
theorem zhe (L : (Nat × Nat) × (Nat × Nat)) (U : Nat) (h : Lt2 L.1 ∧ Lt2 L.2) (hU : U < PP) : Fp G 183 #[rgv L, fe U] (ptv (vi U L.1 L.2)) := by
 obtain ⟨a, ha⟩ : ∃ a, a = (L.2.1 + PP - L.2.2) % PP * ((L.1.1 + L.1.2) % PP) % PP := ⟨_, rfl⟩
 have haL : a < PP := by rw [ha]; exact Nat.mod_lt _ (by decide)
 obtain ⟨b, hb⟩ : ∃ b, b = (L.2.1 + L.2.2) % PP * ((L.1.1 + PP - L.1.2) % PP) % PP := ⟨_, rfl⟩
 have hbL : b < PP := by rw [hb]; exact Nat.mod_lt _ (by decide)
 refine Qf1 Tryz.func183 ?_
 refine (g4)<|(Qh 0) fun r1=>(Qh 1) fun r2=>(QH 2) fun r3=>(jf)<|(QA 8 1)<|(QA 8 0)<|(Qls 0) ?_
 refine z6 (zkO _) ?_
 refine (QA 8 1)<|(QA 12 1)<|(Qls 0) ?_
 refine z6 (zi7 _) ?_
 refine (Ca (Wo _ _ h.2.1 h.2.2))<|(QA 0 0)<|(QA 0 0)<|(Qls 0) ?_
 refine z6 (zko _) ?_
 refine (QA 0 0)<|(QA 4 1)<|(Qls 0) ?_
 refine z6 (zk6 _) ?_
 refine (Ca (XZ _ _ h.1.1 h.1.2)) ?_
 refine zd rfl (Un 186) (Z3 _ _ (Nat.mod_lt _ (by decide)) (Nat.mod_lt _ (by decide))) rfl rfl ?_
 refine z6 (congrArg fe ha.symm) ?_
 refine (QH 3) fun r4=>(Qt 3)<|(jf)<|(QA 8 1)<|(QA 8 0)<|(Qls 0) ?_
 refine z6 (zkO _) ?_
 refine (QA 8 1)<|(QA 12 1)<|(Qls 0) ?_
 refine z6 (zi7 _) ?_
 refine (Ca (XZ _ _ h.2.1 h.2.2))<|(QA 0 0)<|(QA 0 0)<|(Qls 0) ?_
 refine z6 (zko _) ?_
 refine (QA 0 0)<|(QA 4 1)<|(Qls 0) ?_
 refine z6 (zk6 _) ?_
 refine (Ca (Wo _ _ h.1.1 h.1.2)) ?_
 refine zd rfl (Un 186) (Z3 _ _ (Nat.mod_lt _ (by decide)) (Nat.mod_lt _ (by decide))) rfl rfl ?_
 refine z6 (congrArg fe hb.symm) ?_
 refine (QH 4) fun r5=>(Qt 4)<|(jf)<|(Qd 3)<|(Qd 4) ?_
 refine (Ca (XZ _ _ haL hbL)) ?_
 refine zd rfl (Un 211) (ZA _ (Nat.mod_lt _ (by decide))) rfl rfl ?_
 refine (Qd 1)<|(Qd 3)<|(Qd 4) ?_
 refine (Ca (Wo _ _ haL hbL)) ?_
 refine zd rfl (Un 211) (ZA _ (Nat.mod_lt _ (by decide))) rfl rfl ?_
 refine zd rfl (Un 186) (Z3 _ _ hU (Nat.mod_lt _ (by decide))) rfl rfl ?_
 refine wn _ (Ub 186 rfl) (Uu 186 rfl) (Uz 127 rfl) rfl (VE _ _) rfl ?_
 refine z6 (congrArg ptv ((zgC h.1.2 h.2.2 U ha hb).symm.trans (z06 h.1.2 h.2.2 U))) ?_
 refine (Qt 2)<|Qn<|Qr ?_
 exact ⟨_, rfl, ya 2⟩
theorem z4e (L : (Nat × Nat) × (Nat × Nat)) (n : Nat) (hn : n ≤ 1) : Fp G 181 #[rgv L, u n] (rgv (swp n L)) := by
 refine Qf1 Tryz.func181 ?_
 refine (g4)<|(Qh 0) fun r1=>(QH 1) fun r2=>Qn<|(ji) ?_
 refine Qz (fun kk E m => ∃ (k : Nat) (s : Nat → Nat), kk = 2 - k ∧ E = [(1, u n), (2, ptr r1), (4, ptr r2), (8, ii k)] ∧ m = [(0, some ⟨r1, arr .u64 16 s, 188⟩), (1, some ⟨r2, arr .u64 16 (fun _ => 0), 188⟩)] ∧ (k ≤ 2) ∧ (∀ t, t < 16 → s t = swt n (rgf L) (4 * k) t)) ⟨0, rgf L, rfl, rfl, rfl, by omega, fun t _ => (zdN n (rgf L) t).symm⟩ ⟨rfl, rfl, rfl, rfl, trivial⟩ ⟨rfl, rfl, trivial⟩ ?_
 rintro kk E m ⟨k, s, rfl, rfl, rfl, hf0_0, hf0_1⟩
 refine (gq) ?_
 refine (Qcd) (fun hc0=>?_) fun hc0=>?_
 ·refine Qk<|Qs<|Qb<|Qs<|Qp<|(Qm)<|(Qa)<|Qn<|Qs<|Qp<|(Qm)<|Qn<|Qb ?_
  refine Qz (fun kk E m => ∃ (j : Nat) (s2 : Nat → Nat), kk = 4 - j ∧ E = [(1, u n), (2, ptr r1), (4, ptr r2), (8, ii k), (5, ii k), (11, ii j)] ∧ m = [(0, some ⟨r1, arr .u64 16 s2, 188⟩), (1, some ⟨r2, arr .u64 16 (fun _ => 0), 188⟩)] ∧ (j ≤ 4) ∧ (∀ t, t < 16 → s2 t = swt n (rgf L) (4 * k + j) t)) ⟨0, s, rfl, rfl, rfl, by omega, hf0_1⟩ ⟨rfl, rfl, rfl, rfl, rfl, rfl, trivial⟩ ⟨rfl, rfl, trivial⟩ ?_
  rintro kk E m ⟨j, s2, rfl, rfl, rfl, hf1_0, hf1_1⟩
  refine (gq) ?_
  refine (Qcd) (fun hc1=>?_) fun hc1=>?_
  ·refine Qk<|Qs<|Qb<|Qs<|Qp<|(Qm)<|(Qa)<|Qn<|Qs<|(Qg)<|(Qm)<|(Qm)<|(QA 0 0)<|(QB (4 * k))<|(QB (4 * k + j))<|(Q1 0)<|(Qm)<|(Qm)<|(QA 8 1)<|(QB (8 + 4 * k))<|(QB (8 + (4 * k + j)))<|(Q1 0) ?_
   refine z34 rfl rfl rfl  ?_
   refine (Qm) ?_
   refine z2U rfl rfl (by omega) ?_
   refine VG rfl rfl rfl  ?_
   refine (g3)<|(gr)<|(gb)<|(QA 0 0)<|(QB (4 * k))<|(QB (4 * k + j))<|(Q1 0)<|(Qm) ?_
   refine z34 rfl rfl rfl  ?_
   refine (QA 0 0)<|(QB (4 * k))<|(QB (4 * k + j))<|(Qu 0)<|Qn<|(Qg)<|(gb)<|(QA 8 1)<|(QB (8 + 4 * k))<|(QB (8 + (4 * k + j)))<|(Q1 0)<|(Qm) ?_
   refine z34 rfl rfl rfl  ?_
   refine (QA 8 1)<|(QB (8 + 4 * k))<|(QB (8 + (4 * k + j)))<|(Qu 0)<|(jc) ?_
   refine Qzr ⟨j + 1, upd (upd s2 (4 * k + j) _) (8 + (4 * k + j)) _, rfl, rfl, rfl, by omega, zaY (c := 4 * k + j) hn (zjt L) (by omega) hf1_1 _ _ _ rfl rfl rfl⟩ ⟨rfl, rfl, rfl, rfl, rfl, rfl, trivial⟩ ⟨rfl, rfl, trivial⟩ ?_
   omega
  ·have hj4 : j = 4 := by omega
   subst hj4
   refine Qe<|(gl) ?_
   refine Qzr ⟨k + 1, s2, rfl, rfl, rfl, by omega, by rw [show 4 * (k + 1) = 4 * k + 4 by omega]; exact hf1_1⟩ ⟨rfl, rfl, rfl, rfl, trivial⟩ ⟨rfl, rfl, trivial⟩ ?_
   omega
 ·have hk2 : k = 2 := by omega
  subst hk2
  refine (jo)<|(Qd 0)<|(j4)<|Qr ?_
  rw [rgv, ← zco hf0_1]
  exact ⟨_, rfl, ya 1⟩
theorem z9M (f : NN) (hf : L8 32 f) : Fp G 147 #[.agg (arr .u8 32 f)] (.bool (!zP 32 f (fun _ => 0))) := by
 refine Qf1 Tryz.func147 ?_
 refine (g4)<|(Qh 0) fun r1=>(g3)<|(gc)<|(gs)<|(Qd 0)<|(Qm)<|Qn<|Qb ?_
 refine Qz (fun kk E m => ∃ (k : Nat) (s : Nat), kk = 32 - k ∧ E = [(3, by8 s), (6, .agg (arr .u8 32 f)), (7, ii k)] ∧ m = [(0, some ⟨r1, arr .u8 32 f, 30⟩)] ∧ (k ≤ 32) ∧ (s < 256) ∧ (s = 0 ↔ ∀ j, j < k → f j = 0)) ⟨0, 0, rfl, rfl, rfl, by omega, by decide, ⟨fun _ j hj => absurd hj (Nat.not_lt_zero j), fun _ => rfl⟩⟩ ⟨rfl, rfl, rfl, trivial⟩ ⟨rfl, trivial⟩ ?_
 rintro kk E m ⟨k, s, rfl, rfl, rfl, hf0_0, hf0_1, hf0_2⟩
 refine (gq) ?_
 refine (Qcd) (fun hc0=>?_) fun hc0=>?_
 ·refine Qk<|Qs<|Qb<|Qs<|Qp<|(QX)<|(Qa)<|Qn<|Qp<|(Qm)<|(Qm) ?_
  refine zdU rfl rfl rfl  ?_
  refine (jb) ?_
  refine Qzr ⟨k + 1, _, rfl, rfl, rfl, by omega, Nat.mod_lt _ (by decide), z7D hf0_1 (hf k (by omega)) hf0_2⟩ ⟨rfl, rfl, rfl, trivial⟩ ⟨rfl, trivial⟩ ?_
  omega
 ·have hk : k = 32 := by omega
  subst hk
  refine Qe<|(g6)<|(QN) ?_
  refine (Ab (zau hf0_2))<|(gt) ?_
  exact ⟨_, rfl, yt⟩
theorem z9t (p : Nat × Nat) (h : Lt2 p) : Fp G 146 #[ptv p] (z0M (wA p.1 (p.2 ^ EE % PP))) := by
 refine Qf1 Tryz.func146 ?_
 refine (g4)<|(Qh 0) fun r1=>(QH 1) fun r2=>(gj)<|(QA 4 1)<|(Qls 0) ?_
 refine z6 (zcA _) ?_
 refine (Ca (zji _ h.2))<|(gi)<|(QH 2) fun r3=>(Qt 2)<|(j3)<|(QA 0 0)<|(Qls 0) ?_
 refine z6 (zcd _) ?_
 refine (Qd 2) ?_
 refine zd rfl (Un 186) (Z3 _ _ h.1 (Nat.mod_lt _ (by decide))) rfl rfl ?_
 refine zd rfl (Un 185) (zfo _ (Nat.mod_lt _ (by decide))) rfl rfl ?_
 refine (gi)<|(QH 3) fun r4=>(Qt 3)<|(j3)<|(Qd 3)<|(j4)<|Qr ?_
 exact ⟨_, rfl, ya 1⟩
theorem zaA (f : NN) (hf : L8 32 f) : Fp G 145 #[.agg (arr .u8 32 f)] (.agg (arr .u8 32 (z1f f))) := by
 refine Qf1 Tryz.func145 ?_
 refine (g4)<|(Qh 0) fun r1=>(QH 1) fun r2=>(gj)<|(Qj 0)<|(Q1 0) ?_
 refine Vw (q := 248) rfl rfl rfl  ?_
 refine (Qj 0)<|(Qu 0)<|(gj)<|(Qj 31)<|(Q1 0) ?_
 refine Vw (q := 127) rfl rfl rfl  ?_
 refine (Qj 31)<|(Qu 0)<|(gj)<|(Qj 31)<|(Q1 0) ?_
 refine zdU (q := 64) rfl rfl rfl  ?_
 refine (Qj 31)<|(Qu 0)<|(gj)<|(Qd 0)<|(j4)<|Qr ?_
 rw [← zgK hf rfl rfl rfl]
 exact ⟨_, rfl, ya 1⟩
theorem zaP (f : NN) (U : Nat) (hf : L8 32 f) (hU : U < PP) : Fp G 144 #[.agg (arr .u8 32 f), fe U] (rgv (v5 U (vb f 32) 255)) := by
 refine Qf1 Tryz.func144 ?_
 refine (g4)<|(Qh 0) fun r1=>(Qh 1) fun r2=>(QH 2) fun r3=>(gj) ?_
 refine zV (arr .u64 4 (upd (fun _ => 0) 0 1)) (Ub 127 rfl) (Uu 127 rfl) (Uz 31 rfl) rfl rfl rfl ?_
 refine z6 (z0d 1 (by decide)) ?_
 refine wo (Ub 127 rfl) (Uu 127 rfl) zk5 rfl ?_
 refine z6 (zgI) ?_
 refine wn _ (Ub 186 rfl) (Uu 186 rfl) (Uz 127 rfl) rfl (VE _ _) rfl ?_
 refine (Qd 1) ?_
 refine zV (arr .u64 4 (upd (fun _ => 0) 0 1)) (Ub 127 rfl) (Uu 127 rfl) (Uz 31 rfl) rfl rfl rfl ?_
 refine z6 (z0d 1 (by decide)) ?_
 refine wn _ (Ub 186 rfl) (Uu 186 rfl) (Uz 127 rfl) rfl (VE _ _) rfl ?_
 refine wn _ (Ub 188 rfl) (Uu 188 rfl) (Uz 186 rfl) rfl (z8Y _ _) rfl ?_
 refine (QH 3) fun r4=>(Qt 3)<|Qn<|Qs<|(gc)<|Qb ?_
 refine Qz (fun kk E m => ∃ (n : Nat), kk = 2 * n ∧ E = [(2, ptr r1), (3, ptr r2), (4, ptr r3), (5, ptr r4), (6, .int .i64 (((n : Nat) : Int) - 1))] ∧ m = [(0, some ⟨r1, arr .u8 32 f, 30⟩), (1, some ⟨r2, arr .u64 4 (wd U), 127⟩), (2, some ⟨r3, arr .u64 16 (fun _ => 0), 188⟩), (3, some ⟨r4, arr .u64 16 (rgf (v5 U (vb f 32) (255 - n))), 188⟩)] ∧ (n ≤ 255)) ⟨255, rfl, rfl, rfl, by omega⟩ ⟨rfl, rfl, rfl, rfl, rfl, trivial⟩ ⟨rfl, rfl, rfl, rfl, trivial⟩ ?_
 rintro kk E m ⟨n, rfl, rfl, rfl, hf0_0⟩
 refine (ge)<|(QE)<|Qn ?_
 refine (Qcd) (fun hc0=>?_) fun hc0=>?_
 ·obtain ⟨i, rfl⟩ : ∃ i, n = i + 1 := ⟨n - 1, by omega⟩
  have hfi := hf (i / 8) (by omega)
  obtain ⟨b, hb⟩ : ∃ b, b = vb f 32 / 2 ^ i % 2 := ⟨_, rfl⟩
  have hb1 : b ≤ 1 := by omega
  obtain ⟨L, hL⟩ : ∃ L, L = swp b (v5 U (vb f 32) (255 - (i + 1))) := ⟨_, rfl⟩
  have hLL : Lt2 L.1 ∧ Lt2 L.2 := by rw [hL]; exact zj6 (Xi hU _ _)
  refine (jr) ?_
  refine z6 (congrArg (Value.int .i64) (show ((i + 1 : Nat) : Int) - 1 = ((i : Nat) : Int) by omega)) ?_
  refine (Q5 8)<|(gu)<|(Qm) ?_
  refine z6 (congrArg (Value.int .i64) (show ((i + 1 : Nat) : Int) - 1 = ((i : Nat) : Int) by omega)) ?_
  refine (Q4 8) ?_
  refine z7V rfl rfl rfl (by omega) ?_
  refine xx (Uu 5) (Uu 31) rfl rfl rfl ?_
  refine (Q9 1) ?_
  refine (Au ((zfJ hf i (by omega)).trans hb.symm))<|(j3)<|(Qd 3)<|(Qm) ?_
  refine (Ca (z4e (v5 U (vb f 32) (255 - (i + 1))) b hb1)) ?_
  refine z6 (congrArg rgv hL.symm) ?_
  refine (Qt 3)<|(jf)<|(QA 0 0)<|(Qls 3) ?_
  refine z6 (zfj _) ?_
  refine (Ca (zfl L.1 hLL.1))<|(Qd 3)<|(Qd 1) ?_
  refine (Ca (zhe L U hLL hU)) ?_
  refine wn _ (Ub 188 rfl) (Uu 188 rfl) (Uz 186 rfl) rfl (z8Y _ _) rfl ?_
  refine (Qt 3)<|Qn<|Qp<|(Qd 3)<|(Qm) ?_
  refine (Ca (z4e _ b hb1)) ?_
  refine z6 (congrArg rgv (zfS hU (by omega) hb hL)) ?_
  refine (Qt 3)<|Qn<|(je) ?_
  refine xG (q := 1) rfl rfl rfl (by omega) (by omega) ?_
  refine (g3) ?_
  refine Qzr ⟨i, rfl, rfl, rfl, by omega⟩ ⟨rfl, rfl, rfl, rfl, congrArg (fun z => some (Value.int .i64 z)) (show ((i + 1 : Nat) : Int) - 1 - 1 = ((i : Nat) : Int) - 1 by omega), trivial⟩ ⟨rfl, rfl, rfl, rfl, trivial⟩ ?_
  omega
 ·have hn0 : n = 0 := by omega
  subst hn0
  refine (jo)<|(Qd 3)<|(Qt 2)<|Qn<|Qr ?_
  exact ⟨_, rfl, ya 2⟩
theorem z02 (f g : NN) (hf : L8 32 f) (hg : L8 32 g) : Fp G 110 #[.agg (arr .u8 32 f), .agg (arr .u8 32 g)] (.tuple #[z0M (YY (pnt g) (sec f)), .bool (!decide (YY (pnt g) (sec f) = 0))]) := by
 refine Qf2 Tryz.func110 ?_
 refine (g4)<|(Qh 0) fun r1=>(Qh 1) fun r2=>(QH 2) fun r3=>(j3)<|(Qd 1) ?_
 refine (Ca (zhL g hg))<|(QH 3) fun r4=>(Qt 3)<|(jf)<|(Qd 0) ?_
 refine (Ca (zaA f hf))<|(Qd 3) ?_
 refine (Ca (zaP (z1f f) (pnt g) (z9n hf) (z2Q g)))<|(QH 4) fun r5=>(Qt 4)<|(gj)<|(QA 0 0)<|(Qls 4) ?_
 refine z6 (zfj _) ?_
 refine (Ca (z9t (v5 (pnt g) (sec f) 255).1 (Xi (z2Q g) _ _).1))<|(QH 5) fun r6=>(Qt 5)<|Qn<|Qs<|(Qq ⟨[r3], 1, [], none, none⟩) ?_
 refine zF (i := 5) (Uu 30) rfl (Uz 30) rfl rfl (z9 _ _ _) rfl ⟨[2], rfl, rfl, trivial⟩ ?_
 refine zF (i := 5) (Uu 30) rfl (Uz 30) rfl rfl (z9 _ _ _) rfl ⟨[2], rfl, rfl, trivial⟩ ?_
 refine (Ca (z9M (bt (YY (pnt g) (sec f))) (fun j _ => zcn _ j))) ?_
 refine z6 (congrArg (fun z => Value.bool (!z)) (z7P (Vs _ _))) ?_
 refine z5 (i := 2) (Uz 30) rfl rfl (z9 _ _ _) zU rfl (ye _ _ _ _ _) (.inr (by simp)) ?_
 refine (gt) ?_
 exact ⟨_, _, rfl, ya 2, yt⟩
theorem z0K (f : NN) (hf : L8 32 f) : Fp G 69 #[.agg (arr .u8 32 f)] (z0M (YY 9 (sec f))) := by
 refine Qf1 Tryz.func69 ?_
 refine (g4)<|(Qh 0) fun r1=>(QH 1) fun r2=>(gj)<|(Qd 0) ?_
 refine zV (arr .u8 32 (upd (fun _ => 0) 0 9)) (Ub 30 rfl) (Uu 30 rfl) (Uz 5 rfl) rfl (by kernel_rfl) rfl ?_
 refine (Ca (z02 f (upd (fun _ => 0) 0 9) hf z88)) ?_
 refine z6 (congrArg (fun z => Value.tuple #[z0M (YY z (sec f)), .bool (!decide (YY z (sec f) = 0))]) z4Q) ?_
 refine (gi)<|(QH 2) fun r3=>(Qt 2)<|(j3)<|(Qd 2)<|(j4)<|Qr ?_
 exact ⟨_, rfl, ya 1⟩
theorem z8U (a : Nat) : Fp G 82 #[fe a] (dg a) := by
 refine Qf1 Tryz.func82 ?_
 refine (g4)<|(Qh 0) fun r1=>(QH 1) fun r2=>(gj)<|(QH 2) fun r3=>Qn<|(ji) ?_
 refine Qz (fun kk E m => ∃ (k : Nat) (s : Nat → Nat), kk = 16 - k ∧ E = [(1, ptr r1), (2, ptr r2), (3, ptr r3), (5, ii k)] ∧ m = [(0, some ⟨r1, arr .u64 4 (wd a), 127⟩), (1, some ⟨r2, arr .u64 16 (fun _ => 0), 120⟩), (2, some ⟨r3, arr .u64 16 s, 120⟩)] ∧ (k ≤ 16) ∧ (∀ j, j < k → s j = d16 a j)) ⟨0, fun _ => 0, rfl, rfl, rfl, by omega, fun j hj => absurd hj (Nat.not_lt_zero j)⟩ ⟨rfl, rfl, rfl, rfl, trivial⟩ ⟨rfl, rfl, rfl, trivial⟩ ?_
 rintro kk E m ⟨k, s, rfl, rfl, rfl, hf0_0, hf0_1⟩
 refine (gq) ?_
 refine (Qcd) (fun hc0=>?_) fun hc0=>?_
 ·refine Qk<|Qs<|Qb<|Qs<|Qp<|(Qm)<|(Qa)<|Qn<|Qp<|(Qm)<|(Qm)<|(Q5 4)<|(Qi)<|(Q1 0)<|(Qm)<|(Q4 4)<|(Q7 16) ?_
  refine Yq rfl rfl rfl (by omega) ?_
  refine YB (q := 65536) rfl rfl rfl (by omega) ?_
  refine (Qi)<|(Qu 2)<|(jc) ?_
  refine Qzr ⟨k + 1, upd s k _, rfl, rfl, rfl, by omega, yN hf0_1 (zfY a k)⟩ ⟨rfl, rfl, rfl, rfl, trivial⟩ ⟨rfl, rfl, rfl, trivial⟩ ?_
  omega
 ·refine Qe<|Qs<|Qp<|(Qd 2)<|(Qt 1)<|Qn<|Qr ?_
  have hk : k = 16 := by omega
  subst hk
  rw [dg, ← zh hf0_1]
  exact ⟨_, rfl, ya 1⟩
theorem z8l (f : NN) (hf : ∀ j, j < 16 → f j < 65536) : Fp G 85 #[.agg (arr .u64 16 f)] (fe (vs f 16)) := by
 refine Qf1 Tryz.func85 ?_
 refine (g4)<|(Qh 0) fun r1=>(QH 1) fun r2=>(gj)<|(QH 2) fun r3=>Qn<|(gs)<|(Qd 0)<|(Qm)<|Qn<|Qb ?_
 refine Qz (fun kk E m => ∃ (k : Nat) (s : Nat → Nat), kk = 16 - k ∧ E = [(2, ptr r2), (3, ptr r3), (6, .agg (arr .u64 16 f)), (7, ii k)] ∧ m = [(0, some ⟨r1, arr .u64 16 f, 120⟩), (1, some ⟨r2, arr .u64 4 (fun _ => 0), 127⟩), (2, some ⟨r3, arr .u64 4 s, 127⟩)] ∧ (k ≤ 16) ∧ (∀ j, j < 4 → s j = wd (vs f k) j)) ⟨0, fun _ => 0, rfl, rfl, rfl, by omega, fun j _ => by simp [vs, wd]⟩ ⟨rfl, rfl, rfl, rfl, trivial⟩ ⟨rfl, rfl, rfl, trivial⟩ ?_
 rintro kk E m ⟨k, s, rfl, rfl, rfl, hf0_0, hf0_1⟩
 refine (gq) ?_
 refine (Qcd) (fun hc0=>?_) fun hc0=>?_
 ·refine Qk<|Qs<|Qb<|Qs<|Qp<|(Qm)<|(QX)<|(Qa)<|(Qa)<|Qn<|(Qg)<|(Qm)<|(Q5 4)<|(Qi)<|(Q1 2)<|(Qm)<|(Qm)<|(Q4 4)<|(Q7 16) ?_
  refine w9 rfl rfl rfl (by omega) ?_
  refine v3 rfl rfl rfl  ?_
  refine (Qi)<|(Qu 2)<|(jc) ?_
  refine Qzr ⟨k + 1, upd s (k / 4) _, rfl, rfl, rfl, by omega, z9T f k s (by omega) hf hf0_1⟩ ⟨rfl, rfl, rfl, rfl, trivial⟩ ⟨rfl, rfl, rfl, trivial⟩ ?_
  omega
 ·refine Qe<|Qs<|Qp<|(Qd 2)<|(Qt 1)<|Qn<|Qr ?_
  have hk : k = 16 := by omega
  subst hk
  rw [z0h hf0_1]
  exact ⟨_, rfl, ya 1⟩
theorem Vf (f : NN) (hf : ∀ j, j < 16 → f j < 65536) : Fp (⟨2, arr .u64 16 (d16 PP), 120⟩ :: G) 162 #[.agg (arr .u64 16 f)] (.bool (decide (PP ≤ vs f 16))) := by
 refine Qf1 Tryz.func162 ?_
 refine (g4)<|(Qh 0) fun r1=>(g3)<|Qs<|(gc)<|Qb ?_
 refine Qz (fun kk E m => ∃ (n : Nat), kk = 2 * n ∧ E = [(1, ptr r1), (3, .int .i64 (((n : Nat) : Int) - 1))] ∧ m = [(0, some ⟨r1, arr .u64 16 f, 120⟩)] ∧ (n ≤ 16) ∧ (∀ j, n ≤ j → j < 16 → f j = d16 PP j)) ⟨16, rfl, rfl, rfl, by omega, fun j h1 h2 => absurd h1 (by omega)⟩ ⟨rfl, rfl, trivial⟩ ⟨rfl, trivial⟩ ?_
 rintro kk E m ⟨n, rfl, rfl, rfl, hf0_0, hf0_1⟩
 refine (ge)<|(QE)<|Qn ?_
 refine (Qcd) (fun hc0=>?_) fun hc0=>?_
 ·obtain ⟨i, rfl⟩ : ∃ i, n = i + 1 := ⟨n - 1, by omega⟩
  refine Qk<|Qs<|Qb<|(gr)<|(Qm) ?_
  refine z6 (congrArg (Value.int .i64) (show ((i + 1 : Nat) : Int) - 1 = ((i : Nat) : Int) by omega)) ?_
  refine (gu)<|(Qm) ?_
  refine z6 (congrArg (Value.int .i64) (show ((i + 1 : Nat) : Int) - 1 = ((i : Nat) : Int) by omega)) ?_
  refine (Qi) ?_
  refine yl (i := 0) (Uu 31) rfl rfl rfl (zO (by omega)) rfl ?_
  refine (QN)<|Qn ?_
  refine (Qcd) (fun hc1=>?_) fun hc1=>?_
  ·rw [z9p f i (by omega) hf hf0_1 (by omega)]
   refine (gr)<|(Qm) ?_
   refine z6 (congrArg (Value.int .i64) (show ((i + 1 : Nat) : Int) - 1 = ((i : Nat) : Int) by omega)) ?_
   refine (gu)<|(Qm) ?_
   refine z6 (congrArg (Value.int .i64) (show ((i + 1 : Nat) : Int) - 1 = ((i : Nat) : Int) by omega)) ?_
   refine (Qi) ?_
   refine yl (i := 0) (Uu 31) rfl rfl rfl (zO (by omega)) rfl ?_
   refine (QG)<|(gt) ?_
   exact ⟨_, rfl, yt⟩
  ·have heq : f i = d16 PP i := by omega
   refine Qk<|(je) ?_
   refine xG (q := 1) rfl rfl rfl (by omega) (by omega) ?_
   refine (g3) ?_
   refine Qzr ⟨i, rfl, rfl, rfl, by omega, zbE hf0_1 heq⟩ ⟨rfl, congrArg (fun z => some (Value.int .i64 z)) (show ((i + 1 : Nat) : Int) - 1 - 1 = ((i : Nat) : Int) - 1 by omega), trivial⟩ ⟨rfl, trivial⟩ ?_
   omega
 ·have hn0 : n = 0 := by omega
  subst hn0
  rw [zhg f hf0_1]
  refine Qe<|(gz) ?_
  exact ⟨_, rfl, yt⟩
theorem vZ (f : NN) (hf : ∀ j, j < 16 → f j < 2 ^ 48) : Fp (⟨2, arr .u64 16 (d16 PP), 120⟩ :: G) 126 #[.agg (arr .u64 16 f)] (dg (vs f 16 % PP)) := by
 refine Qf1 Tryz.func126 ?_
 refine (g4)<|(Qh 0) fun r1=>(QH 1) fun r2=>Qn<|(ji) ?_
 refine Qz (fun kk E m => ∃ (k : Nat) (s : Nat → Nat), kk = 3 - k ∧ E = [(1, ptr r1), (2, ptr r2), (8, ii k)] ∧ m = [(0, some ⟨r1, arr .u64 16 s, 120⟩), (1, some ⟨r2, arr .u64 16 (fun _ => 0), 120⟩)] ∧ (k ≤ 3) ∧ (vs s 16 % PP = vs f 16 % PP) ∧ (vs s 16 < bnd k) ∧ (∀ j, j < 16 → s j < 2 ^ 48) ∧ (k = 3 → ∀ j, j < 16 → s j < 65536)) ⟨0, f, rfl, rfl, rfl, by omega, rfl, z1q f hf, hf, fun h => absurd h (by decide)⟩ ⟨rfl, rfl, rfl, trivial⟩ ⟨rfl, rfl, trivial⟩ ?_
 rintro kk E m ⟨k, s, rfl, rfl, rfl, hf0_0, hf0_1, hf0_2, hf0_3, hf0_4⟩
 refine (gq) ?_
 refine (Qcd) (fun hc0=>?_) fun hc0=>?_
 ·refine Qk<|Qs<|Qb<|Qs<|Qp<|(Qa)<|Qn<|Qs<|Qs<|Qp<|(Qm)<|Qn<|Qb ?_
  refine Qz (fun kk E m => ∃ (j : Nat) (s2 : Nat → Nat) (c : Nat), kk = 16 - j ∧ E = [(1, ptr r1), (2, ptr r2), (8, ii k), (3, u c), (10, ii j)] ∧ m = [(0, some ⟨r1, arr .u64 16 s2, 120⟩), (1, some ⟨r2, arr .u64 16 (fun _ => 0), 120⟩)] ∧ (j ≤ 16) ∧ (∀ t, t < j → s2 t < 65536) ∧ (∀ t, j ≤ t → s2 t = s t) ∧ (vs s2 j + c * 2 ^ (16 * j) = vs s j) ∧ (c < 2 ^ 33)) ⟨0, s, 0, rfl, rfl, rfl, by omega, fun t ht => absurd ht (Nat.not_lt_zero t), fun t _ => rfl, by simp [vs], by decide⟩ ⟨rfl, rfl, rfl, rfl, rfl, trivial⟩ ⟨rfl, rfl, trivial⟩ ?_
  rintro kk E m ⟨j, s2, c, rfl, rfl, rfl, hf1_0, hf1_1, hf1_2, hf1_3, hf1_4⟩
  have hs2 : j < 16 → s2 j < 2 ^ 48 := fun h => by rw [hf1_2 j (Nat.le_refl j)]; exact hf0_3 j h
  refine (gq) ?_
  refine (Qcd) (fun hc1=>?_) fun hc1=>?_
  ·have hs3 := hs2 (by omega)
   refine (jr)<|(gm)<|(Qm)<|(gu)<|(Qau) ?_
   refine (Au (Y1 c (s2 j) (by omega) (by omega)))<|(g3)<|Qp<|(gb) ?_
   refine YB (q := 65536) rfl rfl rfl (by omega) ?_
   refine (Qm) ?_
   refine YH (q := 65536) rfl rfl rfl (by omega) (by omega) ?_
   refine (jj)<|(jb) ?_
   refine Qzr ⟨j + 1, upd s2 j ((c + s2 j) % 65536), (c + s2 j) / 65536, rfl, rfl, rfl, by omega, z1c hf1_1 (Nat.mod_lt _ (by decide)), z3e hf1_2, z6h hf1_3 (hf1_2 j (Nat.le_refl j)), by omega⟩ ⟨rfl, rfl, rfl, rfl, rfl, trivial⟩ ⟨rfl, rfl, trivial⟩ ?_
   omega
  ·have hj16 : j = 16 := by omega
   subst hj16
   have hra := z9C (by omega) hf0_1 hf0_2 hf1_1 hf1_3
   have hd0 := hf1_1 0 (by decide)
   refine Qe<|Qp<|(Qj 0)<|(Q1 0)<|(Qm) ?_
   refine xl (p := 38) rfl rfl rfl  ?_
   refine (Au (Nat.mod_eq_of_lt (show 38 * c < 18446744073709551616 by omega)))<|(Qau) ?_
   refine (Au (Y1 (s2 0) (38 * c) (by omega) (by omega)))<|(Qj 0)<|(Qu 0)<|(jc) ?_
   refine Qzr ⟨k + 1, upd s2 0 (s2 0 + 38 * c), rfl, rfl, rfl, by omega, hra.1, hra.2.1, hra.2.2.1, hra.2.2.2⟩ ⟨rfl, rfl, rfl, trivial⟩ ⟨rfl, rfl, trivial⟩ ?_
   omega
 ·have hk3 : k = 3 := by omega
  subst hk3
  have hdig := hf0_4 rfl
  refine Qe<|Qs<|Qb ?_
  refine Qz (fun kk E m => ∃ (s3 : Nat → Nat), kk = vs s3 16 ∧ E = [(1, ptr r1), (2, ptr r2)] ∧ m = [(0, some ⟨r1, arr .u64 16 s3, 120⟩), (1, some ⟨r2, arr .u64 16 (fun _ => 0), 120⟩)] ∧ (∀ j, j < 16 → s3 j < 65536) ∧ (vs s3 16 % PP = vs f 16 % PP)) ⟨s, rfl, rfl, rfl, hdig, hf0_1⟩ ⟨rfl, rfl, trivial⟩ ⟨rfl, rfl, trivial⟩ ?_
  rintro kk E m ⟨s3, rfl, rfl, rfl, hf2_0, hf2_1⟩
  refine (gs)<|(Qd 0) ?_
  refine (Ca (Vf s3 hf2_0))<|Qn ?_
  refine (Qcd) (fun hc2=>?_) fun hc2=>?_
  ·refine Qk<|Qb<|Qs<|Qp<|(Qa)<|Qn<|Qs<|Qp<|(Qm)<|Qn<|Qb ?_
   refine Qz (fun kk E m => ∃ (j2 : Nat) (s4 : Nat → Nat) (c2 : Nat), kk = 16 - j2 ∧ E = [(1, ptr r1), (2, ptr r2), (5, u c2), (34, ii j2)] ∧ m = [(0, some ⟨r1, arr .u64 16 s4, 120⟩), (1, some ⟨r2, arr .u64 16 (fun _ => 0), 120⟩)] ∧ (j2 ≤ 16) ∧ (∀ t, t < j2 → s4 t < 65536) ∧ (∀ t, j2 ≤ t → s4 t = s3 t) ∧ (c2 ≤ 1) ∧ (vs s4 j2 + vs (d16 PP) j2 = vs s3 j2 + c2 * 2 ^ (16 * j2))) ⟨0, s3, 0, rfl, rfl, rfl, by omega, fun t ht => absurd ht (Nat.not_lt_zero t), fun t _ => rfl, by decide, by simp [vs]⟩ ⟨rfl, rfl, rfl, rfl, trivial⟩ ⟨rfl, rfl, trivial⟩ ?_
   rintro kk E m ⟨j2, s4, c2, rfl, rfl, rfl, hf3_0, hf3_1, hf3_2, hf3_3, hf3_4⟩
   have hpd := xh PP j2
   have hs4 : s4 j2 = s3 j2 := hf3_2 j2 (Nat.le_refl j2)
   have hs6 : j2 < 16 → s3 j2 < 65536 := fun h => hf2_0 j2 h
   refine (gq) ?_
   refine (Qcd) (fun hc3=>?_) fun hc3=>?_
   ·have hs5 := hs6 (by omega)
    refine (jr)<|(g3)<|(gr)<|(Qm)<|(gu) ?_
    refine wM (q := 65536) rfl rfl rfl  ?_
    refine (Qm)<|(Qi) ?_
    refine yl (i := 0) (Uu 31) rfl rfl rfl (zO (by omega)) rfl ?_
    refine xX rfl rfl rfl (by omega) ?_
    refine (Qm) ?_
    refine xX rfl rfl rfl (by omega) ?_
    refine (Au (z5C (s4 j2) (d16 PP j2) c2 (by omega) (by omega) (by omega)))<|(g3)<|Qp<|(gb) ?_
    refine YB (q := 65536) rfl rfl rfl (by omega) ?_
    refine (Qm) ?_
    refine YH (q := 65536) rfl rfl rfl (by omega) (by omega) ?_
    refine xX (p := 1) rfl rfl rfl (by omega) ?_
    refine z6 (congrArg u (z1Z _ (by omega))) ?_
    refine (jj)<|(jb) ?_
    refine Qzr ⟨j2 + 1, upd s4 j2 ((s4 j2 + 65536 - d16 PP j2 - c2) % 65536), 1 - (s4 j2 + 65536 - d16 PP j2 - c2) / 65536, rfl, rfl, rfl, by omega, z1c hf3_1 (Nat.mod_lt _ (by decide)), z3e hf3_2, by omega, by rw [hs4]; exact V7 hf3_3 hs5 (xh PP j2) hf3_4⟩ ⟨rfl, rfl, rfl, rfl, trivial⟩ ⟨rfl, rfl, trivial⟩ ?_
    omega
   ·have hj16 : j2 = 16 := by omega
    subst hj16
    have hmf := zaF hf3_1 hc2 hf3_4 hf3_3
    refine Qe ?_
    refine Qzr ⟨s4, rfl, rfl, rfl, hf3_1, by rw [← hf2_1, ← hmf, Nat.add_mod_right]⟩ ⟨rfl, rfl, trivial⟩ ⟨rfl, rfl, trivial⟩ ?_
    have := zju
    omega
  ·refine Qe<|Qs<|Qp<|(Qd 0)<|(Qt 1)<|Qn<|Qr ?_
   have hlt : vs s3 16 < PP := by omega
   rw [← zkC hf2_0 (show vs s3 16 = vs f 16 % PP by rw [← hf2_1, Nat.mod_eq_of_lt hlt])]
   exact ⟨_, rfl, ya 1⟩
theorem zkz (a : Nat) (ha : a < 2 ^ 256) : Fp (⟨2, arr .u64 16 (d16 PP), 120⟩ :: G) 125 #[fe a] (.bool (decide (a < PP))) := by
 refine Qf1 Tryz.func125 ?_
 refine (g4)<|(Qh 0) fun r1=>(j3)<|(Qd 0) ?_
 refine (Ca (z8U _)) ?_
 refine (Ca (Vf (d16 a) (fun j _ => xh a j)))<|(Q0) ?_
 refine (Ab (zfW a ha))<|(gt) ?_
 exact ⟨_, rfl, yt⟩
theorem Z9 (x y : Nat) (hx : x < 2 ^ 256) (hy : y < 2 ^ 256) : Fp (⟨2, arr .u64 16 (d16 PP), 120⟩ :: G) 160 #[dg x, dg y] (dg ((x + y) % PP)) := by
 refine Qf1 Tryz.func160 ?_
 refine (g4)<|(Qh 0) fun r1=>(Qh 1) fun r2=>(QH 2) fun r3=>Qn<|(ji) ?_
 refine Qz (fun kk E m => ∃ (k : Nat) (s : Nat → Nat), kk = 16 - k ∧ E = [(2, ptr r1), (3, ptr r2), (4, ptr r3), (6, ii k)] ∧ m = [(0, some ⟨r1, arr .u64 16 s, 120⟩), (1, some ⟨r2, arr .u64 16 (d16 y), 120⟩), (2, some ⟨r3, arr .u64 16 (fun _ => 0), 120⟩)] ∧ (k ≤ 16) ∧ (∀ t, t < k → s t = d16 x t + d16 y t) ∧ (∀ t, k ≤ t → s t = d16 x t)) ⟨0, d16 x, rfl, rfl, rfl, by omega, fun t ht => absurd ht (Nat.not_lt_zero t), fun t _ => rfl⟩ ⟨rfl, rfl, rfl, rfl, trivial⟩ ⟨rfl, rfl, rfl, trivial⟩ ?_
 rintro kk E m ⟨k, s, rfl, rfl, rfl, hf0_0, hf0_1, hf0_2⟩
 have hsk : s k = d16 x k := hf0_2 k (Nat.le_refl k)
 have h1 := xh x k
 have h2 := xh y k
 refine (gq) ?_
 refine (Qcd) (fun hc0=>?_) fun hc0=>?_
 ·refine Qk<|Qs<|Qb<|Qs<|Qp<|(Qm)<|(Qa)<|Qn<|(Qg)<|(Qm)<|(Qi)<|(Q1 0)<|(Qm)<|(Qi)<|(Q1 1) ?_
  refine (Qau) ?_
  refine (Au (Y1 (s k) (d16 y k) (by omega) (by omega)))<|(jj)<|(jc) ?_
  refine Qzr ⟨k + 1, upd s k (s k + d16 y k), rfl, rfl, rfl, by omega, yN (g := fun t => d16 x t + d16 y t) hf0_1 (by rw [hf0_2 k (Nat.le_refl k)]), YZ hf0_2⟩ ⟨rfl, rfl, rfl, rfl, trivial⟩ ⟨rfl, rfl, rfl, trivial⟩ ?_
  omega
 ·have hk : k = 16 := by omega
  subst hk
  refine (jo)<|(Qd 0) ?_
  refine (Ca (vZ s (fun j hj => by rw [hf0_1 j hj]; have := xh x j; have := xh y j; omega)))<|(Qt 2)<|Qn<|Qr ?_
  rw [show (x + y) % PP = vs s 16 % PP by rw [zeg 16 hf0_1, ZR x hx, ZR y hy]]
  exact ⟨_, rfl, ya 2⟩
theorem z0p (x : Nat) (hx : x ≤ PP) : Fp (⟨2, arr .u64 16 (d16 PP), 120⟩ :: G) 161 #[dg x] (dg ((PP - x) % PP)) := by
 have hx2 : x < 2 ^ 256 := Nat.lt_of_le_of_lt hx (by decide)
 refine Qf1 Tryz.func161 ?_
 refine (g4)<|(Qh 0) fun r1=>(QH 1) fun r2=>Qn<|(gc)<|(ji) ?_
 refine Qz (fun kk E m => ∃ (j : Nat) (s : Nat → Nat) (c : Nat), kk = 16 - j ∧ E = [(1, ptr r1), (2, ptr r2), (3, u c), (6, ii j)] ∧ m = [(0, some ⟨r1, arr .u64 16 s, 120⟩), (1, some ⟨r2, arr .u64 16 (fun _ => 0), 120⟩)] ∧ (j ≤ 16) ∧ (∀ t, t < j → s t < 65536) ∧ (∀ t, j ≤ t → s t = d16 x t) ∧ (c ≤ 1) ∧ (vs s j + vs (d16 x) j = vs (d16 PP) j + c * 2 ^ (16 * j))) ⟨0, d16 x, 0, rfl, rfl, rfl, by omega, fun t ht => absurd ht (Nat.not_lt_zero t), fun t _ => rfl, by decide, by simp [vs]⟩ ⟨rfl, rfl, rfl, rfl, trivial⟩ ⟨rfl, rfl, trivial⟩ ?_
 rintro kk E m ⟨j, s, c, rfl, rfl, rfl, hf0_0, hf0_1, hf0_2, hf0_3, hf0_4⟩
 have hpd := xh PP j
 have hxd := xh x j
 have hs4 : s j = d16 x j := hf0_2 j (Nat.le_refl j)
 refine (gq) ?_
 refine (Qcd) (fun hc0=>?_) fun hc0=>?_
 ·refine Qk<|Qs<|Qb<|Qs<|Qp<|(Qm)<|(Qa)<|Qn<|Qs<|(Qg)<|(Qm)<|(Qi) ?_
  refine yl (i := 0) (Uu 31) rfl rfl rfl (zO (by omega)) rfl ?_
  refine wM (q := 65536) rfl rfl rfl  ?_
  refine (Qm)<|(gu) ?_
  refine (Au hs4) ?_
  refine xX rfl rfl rfl (by omega) ?_
  refine (Qm) ?_
  refine xX rfl rfl rfl (by omega) ?_
  refine (Au (z5C (d16 PP j) (d16 x j) c (by omega) (by omega) (by omega)))<|(g3)<|Qp<|(gb) ?_
  refine YB (q := 65536) rfl rfl rfl (by omega) ?_
  refine (Qm) ?_
  refine YH (q := 65536) rfl rfl rfl (by omega) (by omega) ?_
  refine xX (p := 1) rfl rfl rfl (by omega) ?_
  refine z6 (congrArg u (z1Z _ (by omega))) ?_
  refine (jj)<|(jb) ?_
  refine Qzr ⟨j + 1, upd s j ((d16 PP j + 65536 - d16 x j - c) % 65536), 1 - (d16 PP j + 65536 - d16 x j - c) / 65536, rfl, rfl, rfl, by omega, z1c hf0_1 (Nat.mod_lt _ (by decide)), z3e hf0_2, by omega, V7 hf0_3 (xh PP j) (xh x j) hf0_4⟩ ⟨rfl, rfl, rfl, rfl, trivial⟩ ⟨rfl, rfl, trivial⟩ ?_
  omega
 ·have hj : j = 16 := by omega
  subst hj
  have hof := zgA (s := d16 x) hf0_1 (by rw [ZR x hx2]; exact hx) hf0_4 hf0_3
  rw [ZR x hx2] at hof
  refine (jo)<|(Qd 0) ?_
  refine (Ca (vZ s (fun t ht => Nat.lt_trans (hf0_1 t ht) (by decide))))<|(j4)<|Qr ?_
  rw [← hof]
  exact ⟨_, rfl, ya 1⟩
theorem yu (x y : Nat) (hx : x < 2 ^ 256) (hy : y < 2 ^ 256) : Fp (⟨2, arr .u64 16 (d16 PP), 120⟩ :: G) 86 #[dg x, dg y] (dg (x * y % PP)) := by
 refine Qf1 Tryz.func86 ?_
 refine (g4)<|(Qh 0) fun r1=>(Qh 1) fun r2=>(QH 2) fun r3=>(gj)<|(QH 3) fun r4=>Qn<|(gs)<|(Qd 0)<|(Qm)<|Qn<|Qb ?_
 refine Qz (fun kk E m => ∃ (k : Nat) (o : Nat → Nat), kk = 16 - k ∧ E = [(3, ptr r2), (4, ptr r3), (5, ptr r4), (12, .agg (arr .u64 16 (d16 x))), (13, ii k)] ∧ m = [(0, some ⟨r1, arr .u64 16 (d16 x), 120⟩), (1, some ⟨r2, arr .u64 16 (d16 y), 120⟩), (2, some ⟨r3, arr .u64 16 (fun _ => 0), 120⟩), (3, some ⟨r4, arr .u64 32 o, 168⟩)] ∧ (k ≤ 16) ∧ (vs o 32 = x % 2 ^ (16 * k) * y) ∧ (∀ t, o t ≤ k * 4294836225)) ⟨0, fun _ => 0, rfl, rfl, rfl, by omega, z6H x y, fun t => Nat.zero_le _⟩ ⟨rfl, rfl, rfl, rfl, rfl, trivial⟩ ⟨rfl, rfl, rfl, rfl, trivial⟩ ?_
 rintro kk E m ⟨k, o, rfl, rfl, rfl, hf0_0, hf0_1, hf0_2⟩
 refine (gq) ?_
 refine (Qcd) (fun hc0=>?_) fun hc0=>?_
 ·refine Qk<|Qs<|Qb<|Qs<|Qp<|(Qm)<|(QX)<|(Qa)<|(Qa)<|Qn<|Qs<|Qp<|(Qd 1)<|(Qm)<|Qn<|Qb ?_
  refine Qz (fun kk E m => ∃ (j : Nat) (o2 : Nat → Nat), kk = 16 - j ∧ E = [(3, ptr r2), (4, ptr r3), (5, ptr r4), (12, .agg (arr .u64 16 (d16 x))), (13, ii k), (6, ii k), (7, u (d16 x k)), (17, .agg (arr .u64 16 (d16 y))), (18, ii j)] ∧ m = [(0, some ⟨r1, arr .u64 16 (d16 x), 120⟩), (1, some ⟨r2, arr .u64 16 (d16 y), 120⟩), (2, some ⟨r3, arr .u64 16 (fun _ => 0), 120⟩), (3, some ⟨r4, arr .u64 32 o2, 168⟩)] ∧ (j ≤ 16) ∧ (vs o2 32 = x % 2 ^ (16 * k) * y + d16 x k * (y % 2 ^ (16 * j)) * 2 ^ (16 * k)) ∧ (∀ t, o2 t ≤ (k + 1) * 4294836225) ∧ (∀ t, k + j ≤ t → o2 t ≤ k * 4294836225)) ⟨0, o, rfl, rfl, rfl, by omega, by rw [hf0_1]; simp [Nat.mod_one], fun t => Nat.le_trans (hf0_2 t) (Nat.mul_le_mul_right _ (Nat.le_succ k)), fun t _ => hf0_2 t⟩ ⟨rfl, rfl, rfl, rfl, rfl, rfl, rfl, rfl, rfl, trivial⟩ ⟨rfl, rfl, rfl, rfl, trivial⟩ ?_
  rintro kk E m ⟨j, o2, rfl, rfl, rfl, hf1_0, hf1_1, hf1_2, hf1_3⟩
  have hml := z4i x y k j
  have hok := hf1_2 (k + j)
  refine (gq) ?_
  refine (Qcd) (fun hc1=>?_) fun hc1=>?_
  ·refine Qk<|Qs<|Qb<|Qs<|Qp<|(Qm)<|(QX)<|(Qa)<|(Qa)<|Qn<|Qp<|(Qm)<|(Qm)<|(Q3)<|(Qi)<|(Q1 3)<|(Qm)<|(Qm) ?_
   refine xl rfl rfl rfl  ?_
   refine (Au (Nat.mod_eq_of_lt (show d16 x k * d16 y j < 18446744073709551616 by omega)))<|(Qau) ?_
   refine (Au (Y1 (o2 (k + j)) (d16 x k * d16 y j) (by omega) (by omega)))<|(Qi)<|(Qu 3)<|(jc) ?_
   refine Qzr ⟨j + 1, upd o2 (k + j) (o2 (k + j) + d16 x k * d16 y j), rfl, rfl, rfl, by omega, zho (by omega) hf1_1, zhQ hf1_2 hf1_3 (z4i x y k j), zir hf1_3⟩ ⟨rfl, rfl, rfl, rfl, rfl, rfl, rfl, rfl, rfl, trivial⟩ ⟨rfl, rfl, rfl, rfl, trivial⟩ ?_
   omega
  ·have hj : j = 16 := by omega
   subst hj
   refine Qe<|(gl) ?_
   refine Qzr ⟨k + 1, o2, rfl, rfl, rfl, by omega, zcN hy hf1_1, hf1_2⟩ ⟨rfl, rfl, rfl, rfl, rfl, trivial⟩ ⟨rfl, rfl, rfl, rfl, trivial⟩ ?_
   omega
 ·have hk : k = 16 := by omega
  subst hk
  rw [Nat.mod_eq_of_lt (show x < 2 ^ (16 * 16) from hx)] at hf0_1
  refine (jo)<|(QH 4) fun r5=>Qn<|(ji) ?_
  refine Qz (fun kk E m => ∃ (i : Nat) (s : Nat → Nat), kk = 16 - i ∧ E = [(4, ptr r3), (5, ptr r4), (10, ptr r5), (34, ii i)] ∧ m = [(0, some ⟨r1, arr .u64 16 (d16 x), 120⟩), (1, some ⟨r2, arr .u64 16 (d16 y), 120⟩), (2, some ⟨r3, arr .u64 16 (fun _ => 0), 120⟩), (3, some ⟨r4, arr .u64 32 o, 168⟩), (4, some ⟨r5, arr .u64 16 s, 120⟩)] ∧ (i ≤ 16) ∧ (∀ t, t < i → s t = o t + 38 * o (t + 16))) ⟨0, fun _ => 0, rfl, rfl, rfl, by omega, fun t ht => absurd ht (Nat.not_lt_zero t)⟩ ⟨rfl, rfl, rfl, rfl, trivial⟩ ⟨rfl, rfl, rfl, rfl, rfl, trivial⟩ ?_
  rintro kk E m ⟨i, s, rfl, rfl, rfl, hf2_0, hf2_1⟩
  have ho1 := hf0_2 i
  have ho2 := hf0_2 (i + 16)
  refine (gq) ?_
  refine (Qcd) (fun hc2=>?_) fun hc2=>?_
  ·refine Qk<|Qs<|Qb<|Qs<|Qp<|(Qm)<|(Qa)<|Qn<|(Qg)<|(Qm)<|(Qm)<|(Qi)<|(Q1 3)<|(Qm)<|(Q2 16)<|(Qi)<|(Q1 3) ?_
   refine xl (p := 38) rfl rfl rfl  ?_
   refine (Au (Nat.mod_eq_of_lt (show 38 * o (i + 16) < 18446744073709551616 by omega)))<|(Qau) ?_
   refine (Au (Y1 (o i) (38 * o (i + 16)) (by omega) (by omega)))<|(Qi)<|(Qu 4)<|(jc) ?_
   refine Qzr ⟨i + 1, upd s i (o i + 38 * o (i + 16)), rfl, rfl, rfl, by omega, yN (g := fun t => o t + 38 * o (t + 16)) hf2_1 rfl⟩ ⟨rfl, rfl, rfl, rfl, trivial⟩ ⟨rfl, rfl, rfl, rfl, rfl, trivial⟩ ?_
   omega
  ·have hi : i = 16 := by omega
   subst hi
   refine (jo)<|(Qd 4) ?_
   refine (Ca (vZ s (fun t ht => by rw [hf2_1 t ht]; have := hf0_2 t; have := hf0_2 (t + 16); omega)))<|(Qt 2)<|Qn<|Qr ?_
   rw [← zdj hf0_1 hf2_1]
   exact ⟨_, rfl, ya 2⟩
theorem ze0 (x : Nat) (hx : x < PP) : Fp (⟨2, arr .u64 16 (d16 PP), 120⟩ :: G) 87 #[dg x] (dg (x ^ EE % PP)) := by
 have hPP := Ym
 refine Qf1 Tryz.func87 ?_
 refine (g4)<|(Qh 0) fun r1=>(QH 1) fun r2=>(gj) ?_
 refine zV (arr .u64 16 (upd (fun _ => 0) 0 1)) (Ub 120 rfl) (Uu 120 rfl) (Uz 31 rfl) rfl rfl rfl ?_
 refine z6 (z6m 1 (by decide)) ?_
 refine (QH 2) fun r3=>(Qt 2)<|(gj) ?_
 refine z4m (i := 0) (Uu 120) rfl (Uz 120) rfl rfl (z9 _ _ _) rfl ?_
 refine (QH 3) fun r4=>(Qt 3)<|(gj)<|(Qj 0)<|(Q1 3) ?_
 refine xX (q := 2) rfl rfl rfl (by omega) ?_
 refine (Au zio)<|(Qj 0)<|(Qu 3)<|Qn<|(ji) ?_
 refine Qz (fun kk E m => ∃ (k : Nat) (b : Nat) (o : Nat), kk = 255 - k ∧ E = [(1, ptr r1), (2, ptr r2), (3, ptr r3), (4, ptr r4), (12, ii k)] ∧ m = [(0, some ⟨r1, arr .u64 16 (d16 b), 120⟩), (1, some ⟨r2, arr .u64 16 (fun _ => 0), 120⟩), (2, some ⟨r3, arr .u64 16 (d16 o), 120⟩), (3, some ⟨r4, arr .u64 16 (upd (d16 PP) 0 (d16 PP 0 - 2)), 120⟩)] ∧ (k ≤ 255) ∧ (b = x ^ (2 ^ k) % PP) ∧ (o = x ^ (EE % 2 ^ k) % PP)) ⟨0, x, 1, rfl, rfl, rfl, by omega, by rw [Nat.pow_zero, Nat.pow_one, Nat.mod_eq_of_lt hx], zdc x⟩ ⟨rfl, rfl, rfl, rfl, rfl, trivial⟩ ⟨rfl, rfl, rfl, rfl, trivial⟩ ?_
 rintro kk E m ⟨k, b, o, rfl, rfl, rfl, hf0_0, hf0_1, hf0_2⟩
 have hbl : b < 2 ^ 256 := by rw [hf0_1]; exact Nat.lt_trans (Nat.mod_lt _ (by decide)) (by decide)
 have hol : o < 2 ^ 256 := by rw [hf0_2]; exact Nat.lt_trans (Nat.mod_lt _ (by decide)) (by decide)
 refine (gq) ?_
 refine (Qcd) (fun hc0=>?_) fun hc0=>?_
 ·refine Qk<|Qs<|Qb<|Qs<|Qp<|(Qm)<|(Qa)<|Qn<|Qs<|Qs<|Qp<|(Qm)<|(Q5 16)<|(Qi)<|(Q1 3) ?_
  refine (Au (zbF (k / 16) (by omega)))<|(Qm)<|(Q4 16) ?_
  refine Yq rfl rfl rfl (by omega) ?_
  refine YB (q := 2) rfl rfl rfl (by omega) ?_
  refine (Au (z9x EE k))<|(Qc)<|Qn ?_
  refine (Qcd) (fun hc1=>?_) fun hc1=>?_
  ·have hc1 : EE / 2 ^ k % 2 = 1 := by omega
   refine Qp<|(Qd 2)<|(Qd 0) ?_
   refine (Ca (yu o b hol hbl))<|(Qt 2)<|Qn<|Qp<|(Qd 0)<|(Qd 0) ?_
   refine (Ca (yu b b hbl hbl))<|(Qt 0)<|(jc) ?_
   refine Qzr ⟨k + 1, b * b % PP, _, rfl, rfl, rfl, by omega, zih x k b hf0_1, by first | exact z5f x k o b hf0_2 hf0_1 hc1 | exact z63 x k o hf0_2 hc1⟩ ⟨rfl, rfl, rfl, rfl, rfl, trivial⟩ ⟨rfl, rfl, rfl, rfl, trivial⟩ ?_
   omega
  ·have hc1 : ¬ EE / 2 ^ k % 2 = 1 := by omega
   refine Qk<|Qp<|(Qd 0)<|(Qd 0) ?_
   refine (Ca (yu b b hbl hbl))<|(Qt 0)<|(jc) ?_
   refine Qzr ⟨k + 1, b * b % PP, _, rfl, rfl, rfl, by omega, zih x k b hf0_1, by first | exact z5f x k o b hf0_2 hf0_1 hc1 | exact z63 x k o hf0_2 hc1⟩ ⟨rfl, rfl, rfl, rfl, rfl, trivial⟩ ⟨rfl, rfl, rfl, rfl, trivial⟩ ?_
   omega
 ·have hk : k = 255 := by omega
  subst hk
  rw [zcK] at hf0_2
  refine (jo)<|(Qd 2)<|(j4)<|Qr ?_
  rw [← hf0_2]
  exact ⟨_, rfl, ya 1⟩
theorem z7x (a : Nat) (ha : a < 2 ^ 256) : Fp (⟨2, arr .u64 16 (d16 PP), 120⟩ :: G) 124 #[fe a] (fe (a % PP)) := by
 refine Qf1 Tryz.func124 ?_
 refine (g4)<|(Qh 0) fun r1=>(QH 1) fun r2=>(gj)<|(Qd 0) ?_
 refine (Ca (z8U _)) ?_
 refine zd rfl (Un 126) (vZ (d16 a) (fun j _ => Nat.lt_trans (xh a j) (by decide))) rfl rfl ?_
 refine z6 (congrArg (fun z => dg (z % PP)) (ZR a ha)) ?_
 refine (Ca (z8l (d16 (a % PP)) (fun j _ => xh _ j))) ?_
 refine z6 (congrArg fe (ZR (a % PP) (Nat.lt_trans (Nat.mod_lt _ (by decide)) (by decide)))) ?_
 refine (j4)<|Qr ?_
 exact ⟨_, rfl, ya 1⟩
theorem z2E (f : NN) (hf : L8 32 f) : Fp (⟨2, arr .u64 16 (d16 PP), 120⟩ :: G) 83 #[.agg (arr .u8 32 f)] (fe (vb f 32 % 2 ^ 255 % PP)) := by
 refine Qf1 Tryz.func83 ?_
 refine (g4)<|(Qh 0) fun r1=>(QH 1) fun r2=>(gj)<|(QH 2) fun r3=>Qn<|Qs<|(gc)<|Qb ?_
 refine Qz (fun kk E m => ∃ (n : Nat) (s : Nat → Nat), kk = 2 * n ∧ E = [(1, ptr r1), (2, ptr r2), (3, ptr r3), (4, .int .i64 (((n : Nat) : Int) - 1))] ∧ m = [(0, some ⟨r1, arr .u8 32 f, 23⟩), (1, some ⟨r2, arr .u64 4 (fun _ => 0), 127⟩), (2, some ⟨r3, arr .u64 4 s, 127⟩)] ∧ (n ≤ 32) ∧ (∀ j, j < 4 → s j = wd (vb f 32 % 2 ^ 255) j / 2 ^ (8 * (n - 8 * j)))) ⟨32, fun _ => 0, rfl, rfl, rfl, by omega, z6G (vb f 32 % 2 ^ 255)⟩ ⟨rfl, rfl, rfl, rfl, trivial⟩ ⟨rfl, rfl, rfl, trivial⟩ ?_
 rintro kk E m ⟨n, s, rfl, rfl, rfl, hf0_0, hf0_1⟩
 refine (ge)<|(QE)<|Qn ?_
 refine (Qcd) (fun hc0=>?_) fun hc0=>?_
 ·obtain ⟨i, rfl⟩ : ∃ i, n = i + 1 := ⟨n - 1, by omega⟩
  have hfi := hf i (by omega)
  refine (jr) ?_
  refine z6 (congrArg (Value.int .i64) (show ((i + 1 : Nat) : Int) - 1 = ((i : Nat) : Int) by omega)) ?_
  refine (gu) ?_
  refine xx (Uu 5) (Uu 31) rfl rfl rfl ?_
  refine (Au (Nat.mod_eq_of_lt (show f i < 18446744073709551616 by omega)))<|(g3)<|(ge) ?_
  refine z6 (congrArg (Value.int .i64) (show ((i + 1 : Nat) : Int) - 1 = ((i : Nat) : Int) by omega)) ?_
  refine (Qc)<|Qn ?_
  refine (Qcd) (fun hc1=>?_) fun hc1=>?_
  ·have hby : f i % 128 = bt (vb f 32 % 2 ^ 255) i := zdl hf (by omega)
   refine (je) ?_
   refine YB (q := 128) rfl rfl rfl (by omega) ?_
   refine (g3)<|(je) ?_
   refine z6 (congrArg (Value.int .i64) (show ((i + 1 : Nat) : Int) - 1 = ((i : Nat) : Int) by omega)) ?_
   refine (Q5 8)<|(Qm) ?_
   refine z6 (congrArg (Value.int .i64) (show ((i + 1 : Nat) : Int) - 1 = ((i : Nat) : Int) by omega)) ?_
   refine (Q5 8)<|(Qi)<|(Q1 2) ?_
   refine (Au (hf0_1 (i / 8) (by omega))) ?_
   refine xl (q := 256) rfl rfl rfl  ?_
   refine (Qm) ?_
   refine (Au hby)<|(Qau) ?_
   refine (Au (z25 (vb f 32 % 2 ^ 255) i))<|(Qi)<|(Qu 2)<|Qn<|(je) ?_
   refine xG (q := 1) rfl rfl rfl (by omega) (by omega) ?_
   refine (g3) ?_
   refine Qzr ⟨i, upd s (i / 8) (wd (vb f 32 % 2 ^ 255) (i / 8) / 2 ^ (8 * (i - 8 * (i / 8)))), rfl, rfl, rfl, by omega, z2p hf0_1⟩ ⟨rfl, rfl, rfl, congrArg (fun z => some (Value.int .i64 z)) (show ((i + 1 : Nat) : Int) - 1 - 1 = ((i : Nat) : Int) - 1 by omega), trivial⟩ ⟨rfl, rfl, rfl, trivial⟩ ?_
   omega
  ·have hby : f i = bt (vb f 32 % 2 ^ 255) i := zfH hf (by omega)
   refine Qk<|(je) ?_
   refine z6 (congrArg (Value.int .i64) (show ((i + 1 : Nat) : Int) - 1 = ((i : Nat) : Int) by omega)) ?_
   refine (Q5 8)<|(Qm) ?_
   refine z6 (congrArg (Value.int .i64) (show ((i + 1 : Nat) : Int) - 1 = ((i : Nat) : Int) by omega)) ?_
   refine (Q5 8)<|(Qi)<|(Q1 2) ?_
   refine (Au (hf0_1 (i / 8) (by omega))) ?_
   refine xl (q := 256) rfl rfl rfl  ?_
   refine (Qm) ?_
   refine (Au hby)<|(Qau) ?_
   refine (Au (z25 (vb f 32 % 2 ^ 255) i))<|(Qi)<|(Qu 2)<|Qn<|(je) ?_
   refine xG (q := 1) rfl rfl rfl (by omega) (by omega) ?_
   refine (g3) ?_
   refine Qzr ⟨i, upd s (i / 8) (wd (vb f 32 % 2 ^ 255) (i / 8) / 2 ^ (8 * (i - 8 * (i / 8)))), rfl, rfl, rfl, by omega, z2p hf0_1⟩ ⟨rfl, rfl, rfl, congrArg (fun z => some (Value.int .i64 z)) (show ((i + 1 : Nat) : Int) - 1 - 1 = ((i : Nat) : Int) - 1 by omega), trivial⟩ ⟨rfl, rfl, rfl, trivial⟩ ?_
   omega
 ·have hn0 : n = 0 := by omega
  subst hn0
  refine (jo)<|(Qd 2) ?_
  refine z6 (z0h (ze5 hf0_1)).symm ?_
  refine zd rfl (Un 124) (z7x (vb f 32 % 2 ^ 255) (Nat.lt_trans (Nat.mod_lt _ (Nat.pow_pos (by decide))) (by decide))) rfl rfl ?_
  refine (j4)<|Qr ?_
  exact ⟨_, rfl, ya 1⟩
theorem z6a (a : Nat) (ha : a < PP) : Fp (⟨2, arr .u64 16 (d16 PP), 120⟩ :: G) 84 #[fe a] (.tuple #[z0M a, ii 0]) := by
 have hPP := Ym
 refine Qf2 Tryz.func84 ?_
 refine (g4)<|(Qh 0) fun r1=>(QH 1) fun r2=>(j3)<|(QH 2) fun r3=>Qn<|(gs)<|(Qd 0) ?_
 refine zd rfl (Un 125) (zkz _ (by omega)) rfl rfl ?_
 refine (Q0) ?_
 refine (Ab (show (!decide (a < PP)) = false by simp [ha]))<|(jt)<|(Qd 0) ?_
 refine (Ca (z8U _))<|(Qm)<|Qn<|Qb ?_
 refine Qz (fun kk E m => ∃ (k : Nat) (s : Nat → Nat), kk = 16 - k ∧ E = [(1, ptr r1), (2, ptr r2), (4, ptr r3), (12, .agg (arr .u64 16 (d16 a))), (13, ii k)] ∧ m = [(0, some ⟨r1, arr .u64 4 (wd a), 127⟩), (1, some ⟨r2, arr .u8 32 (fun _ => 0), 23⟩), (2, some ⟨r3, arr .u8 32 s, 23⟩)] ∧ (k ≤ 16) ∧ (∀ j, j < 2 * k → s j = bt a j)) ⟨0, fun _ => 0, rfl, rfl, rfl, by omega, fun j hj => absurd hj (Nat.not_lt_zero j)⟩ ⟨rfl, rfl, rfl, rfl, rfl, trivial⟩ ⟨rfl, rfl, rfl, trivial⟩ ?_
 rintro kk E m ⟨k, s, rfl, rfl, rfl, hf0_0, hf0_1⟩
 have hdk := xh a k
 refine (gq) ?_
 refine (Qcd) (fun hc1=>?_) fun hc1=>?_
 ·refine Qk<|Qs<|Qb<|Qs<|Qp<|(Qm)<|(QX)<|(Qa)<|(Qa)<|Qn<|Qp<|(Qm)<|(Q7 2)<|(Qm)<|(Q7 2)<|(Q2 1)<|(Qm) ?_
  refine yY (Uu 31) (Uu 5) rfl rfl rfl ?_
  refine (Qm) ?_
  refine YH (q := 256) rfl rfl rfl (by omega) (by omega) ?_
  refine yY (Uu 31) (Uu 5) rfl rfl rfl ?_
  refine (Qi)<|(Qu 2)<|(Qi)<|(Qu 2)<|(jc) ?_
  refine Qzr ⟨k + 1, upd (upd s (2 * k) _) (2 * k + 1) _, rfl, rfl, rfl, by omega, yN (g := bt a) (yN (g := bt a) hf0_1 (z9U a k)) (zcc a k)⟩ ⟨rfl, rfl, rfl, rfl, rfl, trivial⟩ ⟨rfl, rfl, rfl, trivial⟩ ?_
  omega
 ·have hk : k = 16 := by omega
  subst hk
  refine (jo)<|(Qd 2)<|(Qt 1)<|(gt) ?_
  rw [← z4f hf0_1]
  exact ⟨_, _, rfl, ya 1, yt⟩
theorem zaJ (f : NN) (hf : L8 32 f) : Fp G 81 #[.agg (arr .u8 32 f)] (.agg (arr .u8 32 (z1f f))) := by
 have hf0 := hf 0 (by decide)
 refine Qf1 Tryz.func81 ?_
 refine (g4)<|(Qh 0) fun r1=>(QH 1) fun r2=>(gj)<|(Qj 0)<|(Q1 0)<|(Qj 0)<|(Q1 0) ?_
 refine z3H (q := 8) rfl rfl rfl (by omega) ?_
 refine z3a rfl rfl rfl (by omega) ?_
 refine (Qj 0)<|(Qu 0)<|(gj)<|(Qj 31)<|(Q1 0) ?_
 refine z3H (q := 64) rfl rfl rfl (by omega) ?_
 refine zhX (q := 64) rfl rfl rfl  ?_
 refine (Qj 31)<|(Qu 0)<|(gj)<|(Qd 0)<|(j4)<|Qr ?_
 rw [← zd1 hf rfl rfl]
 exact ⟨_, rfl, ya 1⟩
theorem z0t (p : Nat × Nat) (h : Lt2 p) : Fp (⟨2, arr .u64 16 (d16 PP), 120⟩ :: G) 123 #[p2v p] (p2v (XH p)) := by
 obtain ⟨a, ha⟩ : ∃ a, a = (p.1 + p.2) % PP := ⟨_, rfl⟩
 have haL : a < PP := by rw [ha]; exact Nat.mod_lt _ (by decide)
 obtain ⟨b, hb⟩ : ∃ b, b = (p.1 + (PP - p.2) % PP) % PP := ⟨_, rfl⟩
 have hbL : b < PP := by rw [hb]; exact Nat.mod_lt _ (by decide)
 obtain ⟨s, hs⟩ : ∃ s, s = a * a % PP := ⟨_, rfl⟩
 have hsL : s < PP := by rw [hs]; exact Nat.mod_lt _ (by decide)
 obtain ⟨d, hd⟩ : ∃ d, d = b * b % PP := ⟨_, rfl⟩
 have hdL : d < PP := by rw [hd]; exact Nat.mod_lt _ (by decide)
 obtain ⟨e, he⟩ : ∃ e, e = (s + (PP - d) % PP) % PP := ⟨_, rfl⟩
 have heL : e < PP := by rw [he]; exact Nat.mod_lt _ (by decide)
 have hfin : (s * d % PP, e * ((d + 121666 * e % PP) % PP) % PP) = XH p := by rw [he, hs, hd, ha, hb]; rfl
 refine Qf1 Tryz.func123 ?_
 refine (g4)<|(Qh 0) fun r1=>(QH 1) fun r2=>(jf)<|(Qf 0)<|(Qls 0) ?_
 refine z6 (z6f _) ?_
 refine (Qf 16)<|(Qls 0) ?_
 refine z6 (z1d _) ?_
 refine (Ca (Z9 _ _ (yc h.1) (yc h.2))) ?_
 refine z6 (congrArg dg ha.symm) ?_
 refine (Qf 0)<|(Qls 0) ?_
 refine z6 (z6f _) ?_
 refine (Qf 16)<|(Qls 0) ?_
 refine z6 (z1d _) ?_
 refine (Ca (z0p _ (Nat.le_of_lt h.2))) ?_
 refine zd rfl (Un 160) (Z9 _ _ (yc h.1) (yc (Nat.mod_lt _ (by decide)))) rfl rfl ?_
 refine z6 (congrArg dg hb.symm) ?_
 refine (QH 2) fun r3=>(QH 3) fun r4=>(Qt 2)<|(Qt 3)<|(jf)<|(Qd 2)<|(Qd 2) ?_
 refine (Ca (yu _ _ (yc haL) (yc haL))) ?_
 refine z6 (congrArg dg hs.symm) ?_
 refine (Qd 3)<|(Qd 3) ?_
 refine (Ca (yu _ _ (yc hbL) (yc hbL))) ?_
 refine z6 (congrArg dg hd.symm) ?_
 refine (QH 4) fun r5=>(QH 5) fun r6=>(Qt 4)<|(Qt 5)<|(jf)<|(Qd 4)<|(Qd 5) ?_
 refine (Ca (z0p _ (Nat.le_of_lt hdL))) ?_
 refine zd rfl (Un 160) (Z9 _ _ (yc hsL) (yc (Nat.mod_lt _ (by decide)))) rfl rfl ?_
 refine z6 (congrArg dg he.symm) ?_
 refine (QH 6) fun r7=>(Qt 6)<|(jf)<|(Qd 4)<|(Qd 5) ?_
 refine (Ca (yu _ _ (yc hsL) (yc hdL)))<|(Qd 6)<|(Qd 5) ?_
 refine zV (arr .u64 16 (upd (upd (fun _ => 0) 0 56130) 1 1)) (Ub 120 rfl) (Uu 120 rfl) (Uz 31 rfl) rfl (by kernel_rfl) rfl ?_
 refine z6 zj4 ?_
 refine (Qd 6) ?_
 refine zd rfl (Un 86) (yu _ _ (by decide) (yc heL)) rfl rfl ?_
 refine zd rfl (Un 160) (Z9 _ _ (yc hdL) (yc (Nat.mod_lt _ (by decide)))) rfl rfl ?_
 refine zd rfl (Un 86) (yu _ _ (yc heL) (yc (Nat.mod_lt _ (by decide)))) rfl rfl ?_
 refine zA _ (Ub 122 rfl) (Uu 122 rfl) z36 rfl (zdF _ _) rfl ?_
 refine z6 (congrArg p2v hfin) ?_
 refine (j4)<|Qr ?_
 exact ⟨_, rfl, ya 1⟩
theorem z5W (p q : Nat × Nat) (U : Nat) (h : Lt2 p) (h2 : Lt2 q) (hU : U < PP) : Fp (⟨2, arr .u64 16 (d16 PP), 120⟩ :: G) 122 #[p2v p, p2v q, dg U] (p2v (vi U p q)) := by
 obtain ⟨a, ha⟩ : ∃ a, a = ((p.1 + (PP - p.2) % PP) % PP) * ((q.1 + q.2) % PP) % PP := ⟨_, rfl⟩
 have haL : a < PP := by rw [ha]; exact Nat.mod_lt _ (by decide)
 obtain ⟨b, hb⟩ : ∃ b, b = ((p.1 + p.2) % PP) * ((q.1 + (PP - q.2) % PP) % PP) % PP := ⟨_, rfl⟩
 have hbL : b < PP := by rw [hb]; exact Nat.mod_lt _ (by decide)
 obtain ⟨s, hs⟩ : ∃ s, s = (a + b) % PP := ⟨_, rfl⟩
 have hsL : s < PP := by rw [hs]; exact Nat.mod_lt _ (by decide)
 obtain ⟨d, hd⟩ : ∃ d, d = (a + (PP - b) % PP) % PP := ⟨_, rfl⟩
 have hdL : d < PP := by rw [hd]; exact Nat.mod_lt _ (by decide)
 have hfin : (s * s % PP, U * (d * d % PP) % PP) = vi U p q := by rw [hs, hd, ha, hb]; rfl
 refine Qf1 Tryz.func122 ?_
 refine (g4)<|(Qh 0) fun r1=>(Qh 1) fun r2=>(Qh 2) fun r3=>(QH 3) fun r4=>(jf)<|(Qf 0)<|(Qls 0) ?_
 refine z6 (z6f _) ?_
 refine (Qf 16)<|(Qls 0) ?_
 refine z6 (z1d _) ?_
 refine (Ca (z0p _ (Nat.le_of_lt h.2))) ?_
 refine zd rfl (Un 160) (Z9 _ _ (yc h.1) (yc (Nat.mod_lt _ (by decide)))) rfl rfl ?_
 refine (Qf 0)<|(Qls 1) ?_
 refine z6 (z6f _) ?_
 refine (Qf 16)<|(Qls 1) ?_
 refine z6 (z1d _) ?_
 refine (Ca (Z9 _ _ (yc h2.1) (yc h2.2))) ?_
 refine zd rfl (Un 86) (yu _ _ (yc (Nat.mod_lt _ (by decide))) (yc (Nat.mod_lt _ (by decide)))) rfl rfl ?_
 refine z6 (congrArg dg ha.symm) ?_
 refine (QH 4) fun r5=>(Qt 4)<|(jf)<|(Qf 0)<|(Qls 0) ?_
 refine z6 (z6f _) ?_
 refine (Qf 16)<|(Qls 0) ?_
 refine z6 (z1d _) ?_
 refine (Ca (Z9 _ _ (yc h.1) (yc h.2)))<|(Qf 0)<|(Qls 1) ?_
 refine z6 (z6f _) ?_
 refine (Qf 16)<|(Qls 1) ?_
 refine z6 (z1d _) ?_
 refine (Ca (z0p _ (Nat.le_of_lt h2.2))) ?_
 refine zd rfl (Un 160) (Z9 _ _ (yc h2.1) (yc (Nat.mod_lt _ (by decide)))) rfl rfl ?_
 refine zd rfl (Un 86) (yu _ _ (yc (Nat.mod_lt _ (by decide))) (yc (Nat.mod_lt _ (by decide)))) rfl rfl ?_
 refine z6 (congrArg dg hb.symm) ?_
 refine (QH 5) fun r6=>(Qt 5)<|(jf)<|(Qd 4)<|(Qd 5) ?_
 refine (Ca (Z9 _ _ (yc haL) (yc hbL))) ?_
 refine z6 (congrArg dg hs.symm) ?_
 refine (Qd 4)<|(Qd 5) ?_
 refine (Ca (z0p _ (Nat.le_of_lt hbL))) ?_
 refine zd rfl (Un 160) (Z9 _ _ (yc haL) (yc (Nat.mod_lt _ (by decide)))) rfl rfl ?_
 refine z6 (congrArg dg hd.symm) ?_
 refine (QH 6) fun r7=>(QH 7) fun r8=>(Qt 6)<|(Qt 7)<|(jf)<|(Qd 6)<|(Qd 6) ?_
 refine (Ca (yu _ _ (yc hsL) (yc hsL)))<|(Qd 2)<|(Qd 7)<|(Qd 7) ?_
 refine (Ca (yu _ _ (yc hdL) (yc hdL))) ?_
 refine zd rfl (Un 86) (yu _ _ (yc hU) (yc (Nat.mod_lt _ (by decide)))) rfl rfl ?_
 refine zA _ (Ub 122 rfl) (Uu 122 rfl) z36 rfl (zdF _ _) rfl ?_
 refine z6 (congrArg p2v hfin) ?_
 refine (Qt 3)<|Qn<|Qr ?_
 exact ⟨_, rfl, ya 3⟩
theorem z6k (f : NN) (U : Nat) : Fp (⟨2, arr .u64 16 (d16 PP), 120⟩ :: G) 80 #[.agg (arr .u8 32 f), ii 255, dg U] (.tuple #[p2v (1, 0), p2v (U, 1)]) := by
 refine Qf2 Tryz.func80 ?_
 refine (g4)<|(Qh 0) fun r1=>(Qh 1) fun r2=>(QH 2) fun r3=>(QH 3) fun r4=>Qn<|(ge)<|(Qc)<|(Qar)<|(gv)<|Qs<|(Qq ⟨[r3, r4], 1, [], none, none⟩) ?_
 refine zV (arr .u64 16 (upd (fun _ => 0) 0 1)) (Ub 120 rfl) (Uu 120 rfl) (Uz 31 rfl) rfl (by kernel_rfl) rfl ?_
 refine z6 (z6m 1 (by decide)) ?_
 refine zA _ (Ub 122 rfl) (Uu 122 rfl) z36 rfl (zjs _) rfl ?_
 refine z6 ziX ?_
 refine zF (i := 1) (Uu 120) rfl (Uz 120) rfl rfl (z9 _ _ _) rfl ⟨[2, 3], rfl, rfl, rfl, rfl, trivial⟩ ?_
 refine zV (arr .u64 16 (upd (fun _ => 0) 0 1)) (Ub 120 rfl) (Uu 120 rfl) (Uz 31 rfl) rfl (by kernel_rfl) rfl ?_
 refine z6 (z6m 1 (by decide)) ?_
 refine zA _ (Ub 122 rfl) (Uu 122 rfl) z36 rfl (zdF _ _) rfl ?_
 refine z5 (i := 2) (Uz 122) rfl rfl (z9 _ _ _) zU rfl (ye _ _ _ _ _) (.inr (by simp)) ?_
 refine z5 (i := 3) (Uz 122) rfl rfl (z9 _ _ _) zU rfl (ye _ _ _ _ _) (.inr (by simp)) ?_
 refine Qn<|Qr ?_
 exact ⟨_, _, rfl, ya 2, ya 3⟩
theorem z7c (f : NN) (U i : Nat) (L : (Nat × Nat) × (Nat × Nat)) (hf : L8 32 f) (hU : U < PP) (hi : i < 255) (hL : Lt2 L.1 ∧ Lt2 L.2) (ih : Fp (⟨2, arr .u64 16 (d16 PP), 120⟩ :: G) 80 #[.agg (arr .u8 32 f), ii (i + 1), dg U] (.tuple #[p2v L.1, p2v L.2])) : Fp (⟨2, arr .u64 16 (d16 PP), 120⟩ :: G) 80 #[.agg (arr .u8 32 f), ii i, dg U] (.tuple #[p2v (z52 U (vb f 32 / 2 ^ i % 2) L).1, p2v (z52 U (vb f 32 / 2 ^ i % 2) L).2]) := by
 have hbit := zf0 hf i hi
 refine Qf2 Tryz.func80 ?_
 refine (g4)<|(Qh 0) fun r1=>(Qh 1) fun r2=>(QH 2) fun r3=>(QH 3) fun r4=>Qn<|(ge)<|(Qc)<|(j8)<|(g4)<|(Qd 0)<|(Qm)<|(Q2 1)<|(Qd 1) ?_
 refine (Ca ih)<|(gi)<|(QH 4) fun r5=>(QH 5) fun r6=>(Qt 4)<|(Qt 5)<|Qn<|(ge)<|(Q5 8)<|(gu)<|(Qm)<|(Q4 8) ?_
 refine z7V rfl rfl rfl (by omega) ?_
 refine z3H (q := 2) rfl rfl rfl (by omega) ?_
 refine (Qc)<|Qn ?_
 refine (Qcd) (fun hc1=>?_) fun hc1=>?_
 ·rw [z9Q (by omega)]
  refine Qs<|(Qq ⟨[r3, r4], 1, [], none, none⟩) ?_
  refine zF (i := 4) (Uu 122) rfl (Uz 122) rfl rfl (z9 _ _ _) rfl ⟨[2, 3], rfl, rfl, rfl, rfl, trivial⟩ ?_
  refine zF (i := 5) (Uu 122) rfl (Uz 122) rfl rfl (z9 _ _ _) rfl ⟨[2, 3], rfl, rfl, rfl, rfl, trivial⟩ ?_
  refine zF (i := 1) (Uu 120) rfl (Uz 120) rfl rfl (z9 _ _ _) rfl ⟨[2, 3], rfl, rfl, rfl, rfl, trivial⟩ ?_
  refine (Ca (z5W L.1 L.2 U hL.1 hL.2 hU)) ?_
  refine zF (i := 5) (Uu 122) rfl (Uz 122) rfl rfl (z9 _ _ _) rfl ⟨[2, 3], rfl, rfl, rfl, rfl, trivial⟩ ?_
  refine (Ca (z0t L.2 hL.2)) ?_
  refine z5 (i := 2) (Uz 122) rfl rfl (z9 _ _ _) zU rfl (ye _ _ _ _ _) (.inr (by simp)) ?_
  refine z5 (i := 3) (Uz 122) rfl rfl (z9 _ _ _) zU rfl (ye _ _ _ _ _) (.inr (by simp)) ?_
  refine Qn<|Qr ?_
  exact ⟨_, _, rfl, ya 2, ya 3⟩
 ·rw [zet (by omega)]
  refine Qk<|Qs<|(Qq ⟨[r3, r4], 1, [], none, none⟩) ?_
  refine zF (i := 4) (Uu 122) rfl (Uz 122) rfl rfl (z9 _ _ _) rfl ⟨[2, 3], rfl, rfl, rfl, rfl, trivial⟩ ?_
  refine (Ca (z0t L.1 hL.1)) ?_
  refine zF (i := 4) (Uu 122) rfl (Uz 122) rfl rfl (z9 _ _ _) rfl ⟨[2, 3], rfl, rfl, rfl, rfl, trivial⟩ ?_
  refine zF (i := 5) (Uu 122) rfl (Uz 122) rfl rfl (z9 _ _ _) rfl ⟨[2, 3], rfl, rfl, rfl, rfl, trivial⟩ ?_
  refine zF (i := 1) (Uu 120) rfl (Uz 120) rfl rfl (z9 _ _ _) rfl ⟨[2, 3], rfl, rfl, rfl, rfl, trivial⟩ ?_
  refine (Ca (z5W L.1 L.2 U hL.1 hL.2 hU)) ?_
  refine z5 (i := 2) (Uz 122) rfl rfl (z9 _ _ _) zU rfl (ye _ _ _ _ _) (.inr (by simp)) ?_
  refine z5 (i := 3) (Uz 122) rfl rfl (z9 _ _ _) zU rfl (ye _ _ _ _ _) (.inr (by simp)) ?_
  refine Qn<|Qr ?_
  exact ⟨_, _, rfl, ya 2, ya 3⟩
theorem z5u {G : Mem} (f : NN) (U : Nat) (hf : L8 32 f) (hU : U < PP) : ∀ m i, i + m = 255 → Fp (⟨2, arr .u64 16 (d16 PP), 120⟩ :: G) 80 #[.agg (arr .u8 32 f), ii i, dg U] (.tuple #[p2v (v5 U (vb f 32) m).1, p2v (v5 U (vb f 32) m).2])
 | 0, i, h => by
  obtain rfl : i = 255 := h
  exact z6k f U
 | m + 1, i, h => by
  have ih := z5u (G := G) f U hf hU m (i + 1) (by omega)
  have := z7c f U i (v5 U (vb f 32) m) hf hU (by omega) (Xi hU _ m) ih
  rw [zb1, show 254 - m = i by omega]
  exact this
theorem z4C (f g : NN) (hf : L8 32 f) (hg : L8 32 g) : Fp (⟨2, arr .u64 16 (d16 PP), 120⟩ :: G) 46 #[.agg (arr .u8 32 f), .agg (arr .u8 32 g)] (.tuple #[z0M (YY (pnt g) (sec f)), .bool (!decide (YY (pnt g) (sec f) = 0))]) := by
 have hl := Xi (z2Q g) (sec f) 255
 refine Qf2 Tryz.func46 ?_
 refine (g4)<|(Qh 0) fun r1=>(Qh 1) fun r2=>(QH 2) fun r3=>(g3)<|(gr)<|(Qd 0) ?_
 refine (Ca (zaJ f hf))<|(Qd 1) ?_
 refine (Ca (z2E g hg)) ?_
 refine (Ca (z8U (pnt g))) ?_
 refine (Ca (z5u (z1f f) (pnt g) (z9n hf) (z2Q g) 255 0 rfl))<|(gi)<|(QH 3) fun r4=>(QH 4) fun r5=>(Qt 3)<|(Qt 4)<|(jf)<|(Qf 0)<|(Qls 3) ?_
 refine z6 (z6f _) ?_
 refine (Qf 16)<|(Qls 3) ?_
 refine z6 (z1d _) ?_
 refine (Ca (ze0 _ hl.1.2)) ?_
 refine zd rfl (Un 86) (yu _ _ (yc hl.1.1) (yc (Nat.mod_lt _ (by decide)))) rfl rfl ?_
 refine (Ca (z8l _ (zg1 _))) ?_
 refine z6 (congrArg fe (ZR (YY (pnt g) (sec f)) (yc (Vs _ _)))) ?_
 refine (Ca (z6a _ (Vs _ _)))<|(gi)<|(QH 5) fun r6=>(Qt 5)<|(g3)<|Qs<|(Qq ⟨[r3], 1, [], none, none⟩) ?_
 refine zF (i := 5) (Uu 23) rfl (Uz 23) rfl rfl (z9 _ _ _) rfl ⟨[2], rfl, rfl, trivial⟩ ?_
 refine zF (i := 5) (Uu 23) rfl (Uz 23) rfl rfl (z9 _ _ _) rfl ⟨[2], rfl, rfl, trivial⟩ ?_
 refine wo (Ub 23 rfl) (Uu 23 rfl) z4M rfl ?_
 refine Xt (Uu 23) (Uu 5) (Uz 5) zl2 rfl rfl rfl ?_
 refine z6 (congrArg (fun z => Value.bool (!z)) (z7P (Vs _ _))) ?_
 refine z5 (i := 2) (Uz 30) rfl rfl (z9 _ _ _) zU rfl (ye _ _ _ _ _) (.inr (by simp)) ?_
 refine (gt) ?_
 exact ⟨_, _, rfl, ya 2, yt⟩
theorem ZB (f : NN) (hf : L8 32 f) : Fp (⟨2, arr .u64 16 (d16 PP), 120⟩ :: G) 22 #[.agg (arr .u8 32 f)] (z0M (YY 9 (sec f))) := by
 refine Qf1 Tryz.func22 ?_
 refine (g4)<|(Qh 0) fun r1=>(QH 1) fun r2=>(gj)<|(Qd 0) ?_
 refine zV (arr .u8 32 (upd (fun _ => 0) 0 9)) (Ub 30 rfl) (Uu 30 rfl) (Uz 5 rfl) rfl (by kernel_rfl) rfl ?_
 refine (Ca (z4C f (upd (fun _ => 0) 0 9) hf z88)) ?_
 refine z6 (congrArg (fun z => Value.tuple #[z0M (YY z (sec f)), .bool (!decide (YY z (sec f) = 0))]) z4Q) ?_
 refine (gi)<|(QH 2) fun r3=>(Qt 2)<|(j3)<|(Qd 2)<|(j4)<|Qr ?_
 exact ⟨_, rfl, ya 1⟩
theorem z0O (hI : IVB ∈ G) (hP : (⟨2, arr .u64 16 (d16 PP), 120⟩ : Blk) ∈ G) (b : LN) (l : Bool) (vp v0 v1 vt : Value) (fi : Bool) (tn : Int) (dd : Bool) (y : SY) (r : RS) (ow : NN) (vk : Value) (us : Nat) (ps : List (NN)) (hk : Shows G 32 vk ps.length (psC ps)) (hp : okP ps) (h1 : xU vp v0 v1 vt vk) (hy : okY y) (hr : okR r) (ho : B32 ow) (t : Nat) (w : Nat × SS) (hw : xL fi ow ps t (y, r, us) = w) : Fp G 34 #[.agg (shC b l vp v0 v1 vt fi tn dd y ow r vk ((us : Nat) : Int)), ii t] (.tuple #[.agg (shC b l vp v0 v1 vt fi tn dd w.2.1 ow w.2.2.1 vk ((w.2.2.2 : Nat) : Int)), ii w.1]) := by
 have hpl := hp.2
 obtain ⟨fs, hfs⟩ : ∃ z, z = ZY fi ow r t := ⟨_, rfl⟩
 obtain ⟨fp, hfp⟩ : ∃ z, z = Za fi r t := ⟨_, rfl⟩
 obtain ⟨bs, hbs⟩ : ∃ z, z = (Xc fi r t && ZV fi r t) := ⟨_, rfl⟩
 have hls : B32 fs := by rw [hfs]; exact z3t ho hr
 have hlp : B32 fp := by rw [hfp]; exact z2R hr
 obtain ⟨mk, hmk⟩ : ∃ z, z = z5g fs fp := ⟨_, rfl⟩
 have hN : t ≠ 7 → bs = false → w = (5, (y, r, us)) := fun h7 h => by rw [← hw]; exact Wu h7 (by rw [← hbs]; exact h)
 have hZ : t ≠ 7 → ¬ bs = false → mk = 0 → w = (12, (y, r, us)) := fun h7 h hz => by rw [← hw]; exact Ww h7 (by rw [← hbs]; exact h) (by rw [← hfs, ← hfp, ← hmk]; exact hz)
 have hK : t ≠ 7 → ¬ bs = false → ¬ mk = 0 → w = (0, X6 y (ky (bt mk)), r, us) := fun h7 h hz => by rw [← hw]; exact (z2Z h7 (by rw [← hbs]; exact h) (by rw [← hfs, ← hfp, ← hmk]; exact hz)).trans (by rw [← hfs, ← hfp, ← hmk])
 refine Qf2 Tryz.func34 ?_
 refine (g4)<|(Qh 0) fun r1=>(QH 1) fun r2=>(g3)<|(ge)<|(Qc)<|Qn ?_
 refine zi rfl ?_ ?_
 ·intro hc0
  obtain rfl : t = 7 := by have := of_decide_eq_true hc0; omega
  refine (gs)<|(Qf 239)<|(QV 22 0)<|(Qf 238)<|(QV 21 0)<|(QC hk)<|(QE)<|Qn ?_
  refine (Qcd) (fun hc1=>?_) fun hc1=>?_
  ·obtain rfl : w = (5, (y, r, us)) := by rw [← hw]; exact Vg (by omega)
   refine (gd) ?_
   refine z5 (i := 1) (Uz 37) rfl rfl (z3 _ _) (z7 ⟨fun _ => rfl, fun _ => rfl, fun _ => h1.1, fun _ => h1.2.1, fun _ => h1.2.2.1, fun _ => h1.2.2.2.1, fun _ => rfl, fun _ => rfl, fun _ => rfl, fun _ => rfl, fun _ => rfl, fun _ => rfl, fun _ => rfl, fun _ => rfl, fun _ => rfl, fun _ => rfl, fun _ => rfl, fun _ => rfl, fun _ => rfl, fun _ => rfl, fun _ => rfl, fun _ => h1.2.2.2.2, fun _ => rfl, trivial⟩) rfl za (.inl rfl) ?_
   refine (gt) ?_
   exact ⟨_, _, rfl, yb 1, yt⟩
  ·obtain ⟨y2, hy2⟩ : ∃ y2, y2 = z4L y (ky (Zt ps us)) := ⟨_, rfl⟩
   obtain rfl : w = (0, y2, r, us + 1) := by rw [← hw, hy2]; exact z5V (by omega)
   refine Qk<|(gr)<|(gy) ?_
   refine (Av (SVy y))<|(Qf 238)<|(QV 21 0)<|(Qf 239)<|(QV 22 0) ?_
   refine yf hk (Uu 24) (Uz 30) rfl rfl (by omega) rfl ?_
   refine Yk hk ze (Uu 30) rfl (Uz 30) rfl (by decide) (by rw [xc vI]; omega) (z2X (by omega)) rfl ?_
   refine z6 (congrArg Value.agg (W2 _)) ?_
   refine (Ca (xe (Zt ps us))) ?_
   refine (Ca ((z6R (G := G) y.1 y.2.1 y.2.2.1 y.2.2.2.1 y.2.2.2.2 (ky (Zt ps us)) (xK (z4z hp (by omega))) (by simp) hy.2.2.1 hy.2.2.2).more (in1 hI))) ?_
   refine z6 (show _ = SVy y2 by rw [hy2]; rfl) ?_
   refine (j7) ?_
   refine yM (c' := shC b l vp v0 v1 vt fi tn dd y2 ow r vk ((us : Nat) : Int)) rfl ?_
   refine (gj)<|(Qf 239)<|(QV 22 0)<|(Q2 1)<|(Qf 239)<|(QtV 0 22) ?_
   refine yM (c' := shC b l vp v0 v1 vt fi tn dd y2 ow r vk ((us + 1 : Nat) : Int)) rfl ?_
   refine Qn<|(gd) ?_
   refine z5 (i := 1) (Uz 37) rfl rfl (z3 _ _) (z7 ⟨fun _ => rfl, fun _ => rfl, fun _ => h1.1, fun _ => h1.2.1, fun _ => h1.2.2.1, fun _ => h1.2.2.2.1, fun _ => rfl, fun _ => rfl, fun _ => rfl, fun _ => rfl, fun _ => rfl, fun _ => rfl, fun _ => rfl, fun _ => rfl, fun _ => rfl, fun _ => rfl, fun _ => rfl, fun _ => rfl, fun _ => rfl, fun _ => rfl, fun _ => rfl, fun _ => h1.2.2.2.2, fun _ => rfl, trivial⟩) rfl za (.inl rfl) ?_
   refine (gt) ?_
   exact ⟨_, _, rfl, yb 1, yt⟩
 ·intro hc0
  have h7 : t ≠ 7 := by have := of_decide_eq_false hc0; omega
  refine Qk<|(gd)<|(Qm) ?_
  refine (Ca (za4 b l vp v0 v1 vt fi tn dd y r ow vk ((us : Nat) : Int) t)) ?_
  refine z6 (show _ = Value.tuple #[.agg (arr .u8 32 fs), .agg (arr .u8 32 fp), .bool bs] by rw [hfs, hfp, hbs]) ?_
  refine (jn)<|(QH 2) fun r3=>(QH 3) fun r4=>(Qt 2)<|(Qt 3)<|(g3)<|(ge)<|(Q0)<|Qn ?_
  refine zi rfl ?_ ?_
  ·intro hc2
   have hn1 : bs = false := by cases bs; rfl; cases hc2
   obtain rfl := hN h7 hn1
   refine (gd) ?_
   refine z5 (i := 1) (Uz 37) rfl rfl (z3 _ _) (z7 ⟨fun _ => rfl, fun _ => rfl, fun _ => h1.1, fun _ => h1.2.1, fun _ => h1.2.2.1, fun _ => h1.2.2.2.1, fun _ => rfl, fun _ => rfl, fun _ => rfl, fun _ => rfl, fun _ => rfl, fun _ => rfl, fun _ => rfl, fun _ => rfl, fun _ => rfl, fun _ => rfl, fun _ => rfl, fun _ => rfl, fun _ => rfl, fun _ => rfl, fun _ => rfl, fun _ => h1.2.2.2.2, fun _ => rfl, trivial⟩) rfl za (.inl rfl) ?_
   refine (gt) ?_
   exact ⟨_, _, rfl, yb 1, yt⟩
  ·intro hc2
   have hn1 : ¬ bs = false := by cases bs; cases hc2; decide
   refine Qk<|(g4)<|(Qd 2)<|(Qd 3) ?_
   refine (Ca ((z4C (G := G) fs fp hls hlp).more (in1 hP))) ?_
   refine z6 (show _ = Value.tuple #[Value.agg (arr .u8 32 (bt mk)), .bool (!decide (mk = 0))] by rw [hmk]; rfl) ?_
   refine (gi)<|(QH 4) fun r5=>(Qt 4)<|(g3)<|(ge)<|(Q0)<|Qn ?_
   refine zi rfl ?_ ?_
   ·intro hc3
    have hz1 : mk = 0 := by simpa using hc3
    obtain rfl := hZ h7 hn1 hz1
    refine (gd) ?_
    refine z5 (i := 1) (Uz 37) rfl rfl (z3 _ _) (z7 ⟨fun _ => rfl, fun _ => rfl, fun _ => h1.1, fun _ => h1.2.1, fun _ => h1.2.2.1, fun _ => h1.2.2.2.1, fun _ => rfl, fun _ => rfl, fun _ => rfl, fun _ => rfl, fun _ => rfl, fun _ => rfl, fun _ => rfl, fun _ => rfl, fun _ => rfl, fun _ => rfl, fun _ => rfl, fun _ => rfl, fun _ => rfl, fun _ => rfl, fun _ => rfl, fun _ => h1.2.2.2.2, fun _ => rfl, trivial⟩) rfl za (.inl rfl) ?_
    refine (gt) ?_
    exact ⟨_, _, rfl, yb 1, yt⟩
   ·intro hc3
    have hz1 : ¬ mk = 0 := by simpa using hc3
    obtain ⟨y2, hy2⟩ : ∃ y2, y2 = X6 y (ky (bt mk)) := ⟨_, rfl⟩
    obtain rfl : w = (0, y2, r, us) := by rw [hy2]; exact hK h7 hn1 hz1
    refine Qk<|(gr)<|(gy) ?_
    refine (Av (SVy y))<|(Qd 4) ?_
    refine (Ca (xe (bt mk))) ?_
    refine (Ca ((z2B (G := G) y.1 y.2.1 y.2.2.1 y.2.2.2.1 y.2.2.2.2 (ky (bt mk)) (xK (zjv mk)) (by simp) hy.2.2.1).more (in1 hI))) ?_
    refine z6 (show _ = SVy y2 by rw [hy2]; rfl) ?_
    refine (j7) ?_
    refine yM (c' := shC b l vp v0 v1 vt fi tn dd y2 ow r vk ((us : Nat) : Int)) rfl ?_
    refine Qn<|(gd) ?_
    refine z5 (i := 1) (Uz 37) rfl rfl (z3 _ _) (z7 ⟨fun _ => rfl, fun _ => rfl, fun _ => h1.1, fun _ => h1.2.1, fun _ => h1.2.2.1, fun _ => h1.2.2.2.1, fun _ => rfl, fun _ => rfl, fun _ => rfl, fun _ => rfl, fun _ => rfl, fun _ => rfl, fun _ => rfl, fun _ => rfl, fun _ => rfl, fun _ => rfl, fun _ => rfl, fun _ => rfl, fun _ => rfl, fun _ => rfl, fun _ => rfl, fun _ => h1.2.2.2.2, fun _ => rfl, trivial⟩) rfl za (.inl rfl) ?_
    refine (gt) ?_
    exact ⟨_, _, rfl, yb 1, yt⟩
theorem z0I (v : Value) (vs : List Value) (ls : List (List Int)) (hv : Shows G 1 v vs.length vs) (hL : zn G vs ls) (hn : vs.length ≤ 1000000) : Fp G 93 #[v] (ii (y4 ls)) := by
 have hvl := hL.1
 refine Qf1 Tryz.func93 ?_
 refine (gc)<|(ge)<|(QC hv)<|(Qm)<|Qn<|Qb ?_
 refine QzK [(7, _), (8, _)] [] (fun kk E m => ∃ (i : Nat), kk = vs.length - i ∧ E = [(9, ii i)] ∧ m = [] ∧ (i ≤ vs.length) ∧ (∀ q, q < i → (ls.getD q []).length ≤ 6 ∧ (ls.getD q []).any xp = false)) ⟨0, rfl, rfl, rfl, by omega, fun _ h => absurd h (Nat.not_lt_zero _)⟩ ⟨rfl, rfl, rfl, trivial⟩ trivial ?_
 rintro kk E m ⟨i, rfl, rfl, rfl, hf0_0, hf0_1⟩
 simp only [zq, zx]
 refine (gq) ?_
 refine (Qcd) (fun hc0=>?_) fun hc0=>?_
 ·have hc0 : i < vs.length := by omega
  refine Qk<|Qs<|Qb<|(g4) ?_
  refine yf hv (Uu 27) (Uz 25) rfl rfl (by omega) rfl ?_
  refine (QS) ?_
  refine zS hv ze (Uu 25) rfl rfl (xz (by omega)) rfl ?_
  refine (g3)<|(ge)<|(QC (hL.2 i (by omega)))<|(QG)<|Qn ?_
  refine (Qcd) (fun hc1=>?_) fun hc1=>?_
  ·rw [Zq (by omega) hf0_1, y4, if_pos (by omega)]
   refine (gz) ?_
   first | rw [we (fun q hq => hf0_1 q (by omega))] | skip
   exact ⟨_, rfl, yt⟩
  ·refine Qk<|Qs<|Qp<|(Qm)<|(QC (hL.2 i (by omega)))<|(Qm)<|Qn<|Qb ?_
   refine QzK [(7, _), (8, _), (9, _), (16, _), (17, _)] [] (fun kk E m => ∃ (j : Nat), kk = (ls.getD i []).length - j ∧ E = [(18, ii j)] ∧ m = [] ∧ (j ≤ (ls.getD i []).length) ∧ (∀ p, p < j → xp ((ls.getD i []).getD p 0) = false)) ⟨0, rfl, rfl, rfl, by omega, fun _ h => absurd h (Nat.not_lt_zero _)⟩ ⟨rfl, rfl, rfl, rfl, rfl, rfl, trivial⟩ trivial ?_
   rintro kk E m ⟨j, rfl, rfl, rfl, hf1_0, hf1_1⟩
   simp only [zq, zx]
   refine (gq) ?_
   refine (Qcd) (fun hc2=>?_) fun hc2=>?_
   ·have hc2 : j < (ls.getD i []).length := by omega
    refine Qk<|Qs<|Qb<|(g4) ?_
    refine yf (hL.2 i (by omega)) (Uu 25) (Uz 3) rfl rfl (by omega) rfl ?_
    refine (QS) ?_
    refine zS (hL.2 i (by omega)) ze (Uu 3) rfl rfl (z7Q (by omega)) rfl ?_
    refine (j3) ?_
    refine yd [(6, _), (7, _), (8, _), (9, _), (16, _), (17, _), (18, _), (19, _), (20, _), (21, _)] [(27, .bool (xp ((ls.getD i []).getD j 0)))] [] ⟨rfl, rfl, rfl, rfl, rfl, rfl, rfl, rfl, rfl, rfl, trivial⟩ trivial ?_ ?_
    ·skip
     refine (Qm)<|(Ql)<|(Qm) ?_
     refine zo (b := decide ((ls.getD i []).getD j 0 < 1)) (fun hb0 => ?_) (fun hb0 => ?_)
     ·skip
      refine (g5)<|(QT)<|Qn ?_
      exact ⟨⟨rfl, rfl, rfl, rfl, rfl, rfl, rfl, rfl, rfl, rfl, trivial⟩, ⟨z4 (by rw [xp, hb0] <;> rfl), trivial⟩, trivial⟩
     ·skip
      refine (Qy)<|(g7)<|(QG)<|(QF)<|Qn ?_
      exact ⟨⟨rfl, rfl, rfl, rfl, rfl, rfl, rfl, rfl, rfl, rfl, trivial⟩, ⟨z4 (by rw [xp, hb0] <;> rfl), trivial⟩, trivial⟩
    ·simp only [zq]
     refine zi rfl ?_ ?_
     ·intro hc3
      rw [Zq (by omega) hf0_1, y4, if_neg (by omega), zez (by omega) hc3, if_pos rfl]
      refine (gz) ?_
      first | rw [we (fun q hq => hf0_1 q (by omega))] | skip
      exact ⟨_, rfl, yt⟩
     ·intro hc3
      have hcf := hc3
      refine Qk<|(gl) ?_
      refine QzL ⟨j + 1, rfl, rfl, rfl, by omega, fun p h => by by_cases e : p = j; (subst e; exact hcf); exact hf1_1 p (by omega)⟩ ⟨rfl, rfl, rfl, rfl, rfl, rfl, trivial⟩ trivial ?_
      omega
   ·have hz1 : j = (ls.getD i []).length := by omega
    refine Qe<|(gl) ?_
    refine QzL ⟨i + 1, rfl, rfl, rfl, by omega, fun q h => by by_cases e : q = i; (subst e; exact ⟨by omega, z4p (fun p hp => hf1_1 p (by omega))⟩); exact hf0_1 q (by omega)⟩ ⟨rfl, rfl, rfl, trivial⟩ trivial ?_
    omega
 ·have hz0 : i = vs.length := by omega
  refine Qe<|(gz) ?_
  first | rw [we (fun q hq => hf0_1 q (by omega))] | skip
  exact ⟨_, rfl, yt⟩
theorem z6g (base : LN) (late : Bool) (vp v0 v1 vt : Value) (tvs : List Value) (hvt : Shows G 1 vt tvs.length tvs) (h : tvs.length = 0) : Fp G 54 #[.agg (cells 6 [pV (sv base), pV (.bool late), pV vp, pV v0, pV v1, pV vt])] (ii 1) := by
 refine Qf1 Tryz.func54 ?_
 refine (g4)<|(Qh 0) fun r1=>(g3)<|(gs)<|(jd)<|(QC hvt)<|(Qc)<|(Qat)<|(j5)<|(QT)<|(gv)<|(gz) ?_
 exact ⟨_, rfl, yt⟩
theorem z6K (base : LN) (late : Bool) (vp v0 v1 vt : Value) (tvs : List Value) (hvt : Shows G 1 vt tvs.length tvs) (h : 5 < tvs.length) : Fp G 54 #[.agg (cells 6 [pV (sv base), pV (.bool late), pV vp, pV v0, pV v1, pV vt])] (ii 1) := by
 refine Qf1 Tryz.func54 ?_
 refine (g4)<|(Qh 0) fun r1=>(g3)<|(gs)<|(jd)<|(QC hvt)<|(Qc)<|(Qaf)<|(g7)<|(Qf 5)<|(Qy)<|(QV 5 0)<|(Qy)<|(QC hvt)<|(Qy)<|(QG)<|(Qat)<|(QF)<|(gv)<|(gz) ?_
 exact ⟨_, rfl, yt⟩
theorem z4o (base : LN) (late : Bool) (vp v0 v1 vt : Value) (tvs : List Value) (p0 p1 : List Int) (ts : List (List Int)) (f : Nat) (hvt : Shows G 1 vt tvs.length tvs) (hLI : zn G (v0 :: v1 :: tvs) (p0 :: p1 :: ts)) (hn1 : 1 ≤ tvs.length) (hn5 : tvs.length ≤ 5) (hf : y4 (p0 :: p1 :: ts) = f) (hf0 : f ≠ 0) : Fp G 54 #[.agg (cells 6 [pV (sv base), pV (.bool late), pV vp, pV v0, pV v1, pV vt])] (ii f) := by
 have hT := zr (zr hLI)
 have hv0 : Shows G 1 v0 p0.length (p0.map iv) := hLI.2 0 (by simp)
 have hv1 : Shows G 1 v1 p1.length (p1.map iv) := hLI.2 1 (by simp)
 refine Qf1 Tryz.func54 ?_
 refine (g4)<|(Qh 0) fun r1=>(g3)<|(gs)<|(jd)<|(QC hvt)<|(Qc)<|(Qaf)<|(g7)<|(Qf 5)<|(Qy)<|(QV 5 0)<|(Qy)<|(QC hvt)<|(Qy)<|(QG)<|(Qaf)<|(QF)<|(go)<|(gc)<|(gs)<|(Qf 3)<|(QA 3 0)<|(QV 3 0)<|(Qf 3)<|(QA 4 1)<|(QV 4 0) ?_
 refine yj 1 #[v0, v1] (Uu 27 rfl) (Uz 25 rfl) (Ub 25 rfl) (by decide) (by decide) rfl (xE [v0, v1] 0 _ (by intro v hv; simp only [List.mem_cons, List.not_mem_nil, or_false] at hv; rcases hv with rfl | rfl; exact yk hv0; exact yk hv1) (by simp)) rfl fun r2 => ?_
 refine (jd) ?_
 refine yB 1 z93 hvt rfl ze (Uu 27) (Uz 25) (Uy 25) (Ub 25) (by rfl) rfl rfl (z03 hT) (by simp only [maxLen]; omega) (by omega) rfl fun v2_1 oz2_1 ho2_1 => ?_
 refine zg rfl rfl (Un 93) (zf (zL 1 rfl ⟨[], trivial⟩) ze) (z0I (G := oz2_1.toList ++ G) _ (v0 :: v1 :: tvs) (p0 :: p1 :: ts) (Shows.mono (OwnS.shows (zy ho2_1 (show _ = (v0 :: v1 :: tvs).length by simp; omega) rfl)) (fun x h => List.mem_append_left _ h)) (yF hLI (fun x h => List.mem_append_right _ h)) (by simp; omega)) rfl rfl ?_
 refine (Ai hf)<|(jm)<|(Qat)<|(gv)<|(g6)<|(gt) ?_
 exact ⟨_, rfl, yt⟩
theorem zC (v : Value) (l : List Ev) (who tok : Int) (hv : Shows G 2 v l.length (l.flatMap evC)) (hl : l.length ≤ 1000000) : Fp G 94 #[v, .int .i64 who, .int .i64 tok] (.bool (hap l who tok)) := by
 refine Qf1 Tryz.func94 ?_
 refine (gc)<|(ge)<|(QC hv)<|(Qm)<|Qn<|Qb ?_
 refine QzK [(1, _), (2, _), (9, _), (10, _)] [] (fun kk E m => ∃ (i : Nat), kk = l.length - i ∧ E = [(11, ii i)] ∧ m = [] ∧ (i ≤ l.length) ∧ (∀ j (hj : j < l.length), j < i → hit who tok l[j] = false)) ⟨0, rfl, rfl, rfl, by omega, fun _ _ h => absurd h (Nat.not_lt_zero _)⟩ ⟨rfl, rfl, rfl, rfl, rfl, trivial⟩ trivial ?_
 rintro kk E m ⟨i, rfl, rfl, rfl, hf0_0, hf0_1⟩
 simp only [zq, zx]
 refine (gq) ?_
 refine (Qcd) (fun hc0=>?_) fun hc0=>?_
 ·have hc0 : i < l.length := by omega
  refine Qk<|Qs<|Qb<|(g4) ?_
  refine yf hv (Uu 138) (Uz 141) rfl rfl (by omega) rfl ?_
  refine Yk hv ze (Uu 141) rfl (Uz 141) rfl (by decide) (by rw [ziW]; omega) (zk0 (by omega)) rfl ?_
  refine z6 (congrArg Value.agg (zga l[i])) ?_
  refine (QH 0) fun r1=>(Qt 0)<|(gj) ?_
  refine yd [(1, _), (2, _), (8, _), (9, _), (10, _), (11, _), (12, _), (13, _), (14, _)] [(28, .bool (hit who tok l[i]))] [(0, some _)] ⟨rfl, rfl, rfl, rfl, rfl, rfl, rfl, rfl, rfl, trivial⟩ ⟨rfl, trivial⟩ ?_ ?_
  ·skip
   refine (Qf 1)<|(Q1 0)<|(Qm)<|(Qc)<|(Qm) ?_
   refine zo (b := decide ((l[i].2 : Int) = tok)) (fun hb0 => ?_) (fun hb0 => ?_)
   ·skip
    refine (Qy)<|(g7)<|(Ql)<|(Qy)<|(Qm) ?_
    refine zo (b := decide (who < 0)) (fun hb1 => ?_) (fun hb1 => ?_)
    ·skip
     refine (gg)<|(Qy)<|(QT)<|(QT)<|Qn ?_
     exact ⟨⟨rfl, rfl, rfl, rfl, rfl, rfl, rfl, rfl, rfl, trivial⟩, ⟨z4 (by simp [hit, hb0, hb1]), trivial⟩, ⟨rfl, trivial⟩⟩
    ·skip
     refine (Qy)<|(Qf 0)<|(Qy)<|(Q1 0) ?_
     refine (Av (ii l[i].1))<|(Qy)<|(g7)<|(Qc)<|(Qy)<|(QF)<|(QT)<|Qn ?_
     exact ⟨⟨rfl, rfl, rfl, rfl, rfl, rfl, rfl, rfl, rfl, trivial⟩, ⟨z4 (by simp [hit, hb0, hb1]), trivial⟩, ⟨rfl, trivial⟩⟩
   ·skip
    refine (gw)<|(Qw)<|(Qw)<|(Qw)<|(Qw)<|(Qo)<|(QF)<|Qn ?_
    exact ⟨⟨rfl, rfl, rfl, rfl, rfl, rfl, rfl, rfl, rfl, trivial⟩, ⟨z4 (by simp [hit, hb0]), trivial⟩, ⟨rfl, trivial⟩⟩
  ·simp only [zq]
   refine zi rfl ?_ ?_
   ·intro hc1
    rw [zgj (by omega) hc1]
    refine (gz) ?_
    first | rw [z5G (fun j hj => hf0_1 j hj (by omega))] | skip
    exact ⟨_, rfl, yt⟩
   ·intro hc1
    have hcf := hc1
    refine Qk<|(gl) ?_
    refine QzL ⟨i + 1, rfl, rfl, rfl, by omega, fun j hj h => by by_cases e : j = i; (subst e; exact hcf); exact hf0_1 j hj (by omega)⟩ ⟨rfl, rfl, rfl, rfl, rfl, trivial⟩ trivial ?_
    omega
 ·have hz0 : i = l.length := by omega
  refine Qe<|(gz) ?_
  first | rw [z5G (fun j hj => hf0_1 j hj (by omega))] | skip
  exact ⟨_, rfl, yt⟩
theorem vH (r : Nat) (v : Value) (l : List Ev) (t : Int) (hv : Shows G 2 v l.length (l.flatMap evC)) (hl : l.length ≤ 1000000) : Fp ((⟨r, v.cells, 138⟩ : Blk) :: G) 134 #[.int .i64 t, ptr r] (.bool (hap l (-1) t)) := by
 refine Qf1 Tryz.func134 ?_
 refine (gc)<|(g4) ?_
 refine yl (i := 0) (Uu 138) rfl rfl rfl (z4j (yk hv)) rfl ?_
 refine (Qm) ?_
 refine (Ca (zC v l (-1) t (hv.mono (fun x h => List.mem_cons_of_mem _ h)) hl))<|(gt) ?_
 exact ⟨_, rfl, yt⟩
theorem z0x (v : Value) (l : List Ev) (who : Int) (hv : Shows G 2 v l.length (l.flatMap evC)) (hl : l.length ≤ 1000000) : Fp G 95 #[v, .int .i64 who] (.bool (mlock l who)) := by
 refine Qf1 Tryz.func95 ?_
 refine (g4)<|(Qh 0) fun r1=>(j3)<|(QY)<|(g3)<|(gs) ?_
 refine yd [(0, _), (1, _), (2, _), (4, _), (5, _), (8, _)] [(16, .bool (hap l (-1) 7 && !(hap l who 1)))] [(0, some _)] ⟨rfl, rfl, rfl, rfl, rfl, rfl, trivial⟩ ⟨rfl, trivial⟩ ?_ ?_
 ·skip
  refine (Qm) ?_
  refine zg rfl rfl (Un 134) (wJ 0 rfl) (vH r1 v l 7 hv hl) rfl rfl ?_
  refine (Qm) ?_
  refine zo (b := hap l (-1) 7) (fun hb0 => ?_) (fun hb0 => ?_)
  ·skip
   refine (Qy) ?_
   refine y7 (i := 0) (Uu 138) rfl rfl rfl (z4j (yk hv)) rfl ⟨[], trivial⟩ ?_
   refine (Qy)<|(g7) ?_
   refine (Ca (zC v l who 1 hv hl))<|(Qy)<|(Q0)<|(QT)<|Qn ?_
   exact ⟨⟨rfl, rfl, rfl, rfl, rfl, rfl, trivial⟩, ⟨z4 (by simp [hb0]), trivial⟩, ⟨rfl, trivial⟩⟩
  ·skip
   refine (gg)<|(QF)<|Qn ?_
   exact ⟨⟨rfl, rfl, rfl, rfl, rfl, rfl, trivial⟩, ⟨z4 (by simp [hb0]), trivial⟩, ⟨rfl, trivial⟩⟩
 ·simp only [zq]
  refine zi rfl ?_ ?_
  ·intro hc0
   rw [show mlock l who = false by rw [mlock, hc0]; rfl]
   refine (gz) ?_
   exact ⟨_, rfl, yt⟩
  ·intro hc0
   have hm : mlock l who = ((!(hap l (-1) (vr who)) || hap l (-1) 3) && (!(hap l (-1) 6) || hap l (-1) (v4 who))) := by rw [mlock, hc0]; rfl
   rw [hm]
   refine Qk<|(g4)<|(ja)<|(Qc)<|Qn ?_
   refine z0i [(0, _), (1, _), (2, _), (4, _), (5, _), (8, _), (16, _), (17, _), (18, _)] [(6, ii (vr who)), (7, ii (v4 who))] [(0, some _)] ⟨rfl, rfl, rfl, rfl, rfl, rfl, rfl, rfl, rfl, trivial⟩ ⟨rfl, trivial⟩ ?_ ?_
   ·skip
    refine (Qcd) (fun hc1=>?_) fun hc1=>?_
    ·refine Qp<|(Qa)<|(Qa)<|Qn ?_
     exact ⟨⟨rfl, rfl, rfl, rfl, rfl, rfl, rfl, rfl, rfl, trivial⟩, ⟨(by first | rw [vr, if_pos (by assumption)]; rfl | rw [vr, if_neg (by assumption)]; rfl), (by first | rw [v4, if_pos (by assumption)]; rfl | rw [v4, if_neg (by assumption)]; rfl), trivial⟩, ⟨rfl, trivial⟩⟩
    ·refine Qk ?_
     exact ⟨⟨rfl, rfl, rfl, rfl, rfl, rfl, rfl, rfl, rfl, trivial⟩, ⟨(by first | rw [vr, if_pos (by assumption)]; rfl | rw [vr, if_neg (by assumption)]; rfl), (by first | rw [v4, if_pos (by assumption)]; rfl | rw [v4, if_neg (by assumption)]; rfl), trivial⟩, ⟨rfl, trivial⟩⟩
   ·simp only [zq]
    refine (g4) ?_
    refine yd [(0, _), (1, _), (2, _), (5, _), (6, _), (7, _), (8, _), (16, _), (17, _), (18, _)] [(4, .bool ((!(hap l (-1) (vr who)) || hap l (-1) 3) && (!(hap l (-1) 6) || hap l (-1) (v4 who))))] [(0, some _)] ⟨rfl, rfl, rfl, rfl, rfl, rfl, rfl, rfl, rfl, rfl, trivial⟩ ⟨rfl, trivial⟩ ?_ ?_
    ·skip
     refine (gb) ?_
     refine zg rfl rfl (Un 134) (wJ 0 rfl) (vH r1 v l (vr who) hv hl) rfl rfl ?_
     refine (Q0)<|(Qm) ?_
     refine zo (b := !(hap l (-1) (vr who))) (fun hb1 => ?_) (fun hb1 => ?_)
     ·skip
      refine (g5)<|(QT)<|(gn) ?_
      refine zg rfl rfl (Un 134) (wJ 0 rfl) (vH r1 v l 6 hv hl) rfl rfl ?_
      refine (Qy)<|(Q0)<|(Qy)<|(Qm) ?_
      refine zo (b := !(hap l (-1) 6)) (fun hb2 => ?_) (fun hb2 => ?_)
      ·skip
       refine (gw)<|(Qy)<|(QT)<|(QT)<|(g3) ?_
       exact ⟨⟨rfl, rfl, rfl, rfl, rfl, rfl, rfl, rfl, rfl, rfl, trivial⟩, ⟨z4 (by simp [hb1, hb2]), trivial⟩, ⟨rfl, trivial⟩⟩
      ·skip
       refine (Qy)<|(gn) ?_
       refine zg rfl rfl (Un 134) (wJ 0 rfl) (vH r1 v l (v4 who) hv hl) rfl rfl ?_
       refine (Qy)<|(QF)<|(QT)<|(g3) ?_
       exact ⟨⟨rfl, rfl, rfl, rfl, rfl, rfl, rfl, rfl, rfl, rfl, trivial⟩, ⟨z4 (by simp [hb1, hb2]), trivial⟩, ⟨rfl, trivial⟩⟩
     ·skip
      refine (Qy)<|(g7) ?_
      refine zg rfl rfl (Un 134) (wJ 0 rfl) (vH r1 v l 3 hv hl) rfl rfl ?_
      refine (QF)<|(Qm) ?_
      refine zo (b := hap l (-1) 3) (fun hb3 => ?_) (fun hb3 => ?_)
      ·skip
       refine (Qy)<|(g7) ?_
       refine zg rfl rfl (Un 134) (wJ 0 rfl) (vH r1 v l 6 hv hl) rfl rfl ?_
       refine (Qy)<|(Q0)<|(Qy)<|(Qm) ?_
       refine zo (b := !(hap l (-1) 6)) (fun hb4 => ?_) (fun hb4 => ?_)
       ·skip
        refine (gw)<|(Qy)<|(QT)<|(QT)<|(g3) ?_
        exact ⟨⟨rfl, rfl, rfl, rfl, rfl, rfl, rfl, rfl, rfl, rfl, trivial⟩, ⟨z4 (by simp [hb1, hb3, hb4]), trivial⟩, ⟨rfl, trivial⟩⟩
       ·skip
        refine (Qy)<|(gn) ?_
        refine zg rfl rfl (Un 134) (wJ 0 rfl) (vH r1 v l (v4 who) hv hl) rfl rfl ?_
        refine (Qy)<|(QF)<|(QT)<|(g3) ?_
        exact ⟨⟨rfl, rfl, rfl, rfl, rfl, rfl, rfl, rfl, rfl, rfl, trivial⟩, ⟨z4 (by simp [hb1, hb3, hb4]), trivial⟩, ⟨rfl, trivial⟩⟩
      ·skip
       refine (gg)<|(Qw)<|(Qw)<|(Qw)<|(Qo)<|(QF)<|(g3) ?_
       exact ⟨⟨rfl, rfl, rfl, rfl, rfl, rfl, rfl, rfl, rfl, rfl, trivial⟩, ⟨z4 (by simp [hb1, hb3]), trivial⟩, ⟨rfl, trivial⟩⟩
    ·simp only [zq]
     refine Qr ?_
     exact ⟨_, rfl, yt⟩
end Go.Proofs.YtlidhfijmcelpaaGreatDoor
