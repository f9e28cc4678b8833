import Derived.Test.YtacflmjoigffpaaGreatDoorKX10
set_option maxRecDepth 30000
set_option maxHeartbeats 8000000
attribute [local simp] Go.Proofs.YtacflmjoigffpaaGreatDoor.By Go.Proofs.YtacflmjoigffpaaGreatDoor.L8
namespace Go.Proofs.YtacflmjoigffpaaGreatDoor
open Go Go.RowKit
variable {G : Mem}
theorem z01 (a b : Nat) (ha : a < 2 ^ 256) (hb : b < 2 ^ 256) : Fp G 179 #[fe a, fe b] (.tuple #[fe ((a + b) % 2 ^ 256), u ((a + b) / 2 ^ 256)]) := by
 have hfin : car a b 4 = (a + b) / 2 ^ 256 := by
  unfold car
  rw [Nat.mod_eq_of_lt (show a < 2 ^ (64 * 4) from ha), Nat.mod_eq_of_lt (show b < 2 ^ (64 * 4) from hb)]
 refine Qf2 Tryz.func179 ?_
 refine (g4)<|(Qh 0) fun r1=>(Qh 1) fun r2=>(QH 2) fun r3=>(g3)<|(g4)<|(QH 3) fun r4=>Qn<|(gb)<|(gc)<|Qn<|Qb ?_
 refine Qz (fun kk E m => ∃ (k : Nat) (s : Nat → Nat), kk = 4 - k ∧ E = [(2, ptr r1), (3, ptr r2), (4, ptr r3), (6, ptr r4), (7, u (car a b k)), (9, ii k)] ∧ m = [(0, some ⟨r1, arr .u64 4 (wd a), 122⟩), (1, some ⟨r2, arr .u64 4 (wd b), 122⟩), (2, some ⟨r3, arr .u64 4 (fun _ => 0), 122⟩), (3, some ⟨r4, arr .u64 4 s, 122⟩)] ∧ (k ≤ 4) ∧ (∀ j, j < k → s j = wd (a + b) j)) ⟨0, fun _ => 0, rfl, rfl, rfl, by omega, fun j hj => absurd hj (Nat.not_lt_zero j)⟩ ⟨rfl, rfl, rfl, rfl, by rw [z6W]; rfl, rfl, trivial⟩ ⟨rfl, rfl, rfl, rfl, trivial⟩ ?_
 rintro kk E m ⟨k, s, rfl, rfl, rfl, hf0_0, hf0_1⟩
 have hcl := zeN a b k
 refine (gt) ?_
 refine (Qcd) (fun hc0=>?_) fun hc0=>?_
 ·refine Qk<|Qs<|Qb<|Qs<|Qp<|(Qm)<|(Qa)<|Qn<|(Qq ⟨[r4], 1, [], none, none⟩)<|(Qm)<|(Qm)<|(Qi) ?_
  refine yg (i := 0) (Uu 31) rfl rfl rfl (ye (by omega)) rfl ⟨[3], rfl, rfl, trivial⟩ ?_
  refine (Qm)<|(Qi) ?_
  refine yg (i := 1) (Uu 31) rfl rfl rfl (ye (by omega)) rfl ⟨[3], rfl, rfl, trivial⟩ ?_
  refine (Qm) ?_
  refine vL rfl (fun w => z3q _ _ _ (by omega) w) rfl rfl ?_
  refine (ge)<|(Qi) ?_
  refine ZD (i := 3) (Uz 31) rfl rfl rfl (by omega) (.inr (by simp)) ?_
  refine (g3)<|(go) ?_
  refine Qzr ⟨k + 1, upd s k _, rfl, rfl, rfl, by omega, wF hf0_1 (z1E a b k)⟩ ⟨rfl, rfl, rfl, rfl, by rw [← z5p]; rfl, rfl, trivial⟩ ⟨rfl, rfl, rfl, rfl, trivial⟩ ?_
  omega
 ·refine Qe<|Qs<|Qp<|(Qd 3)<|(Qm)<|(Qt 2)<|(Qa)<|Qn<|Qr ?_
  have hk4 : k = 4 := by omega
  subst hk4
  rw [← hfin, z51 (fun j hj => (hf0_1 j hj).trans (Vi _ j hj).symm)]
  exact ⟨_, _, rfl, ya 2, yt⟩
theorem z1z (a b : Nat) (ha : a < 2 ^ 256) (hb : b < 2 ^ 256) : Fp G 180 #[fe a, fe b] (.tuple #[fe ((a + 2 ^ 256 - b) % 2 ^ 256), u (if a < b then 1 else 0)]) := by
 have hfin : bor a b 4 = if a < b then 1 else 0 := by
  unfold bor
  rw [Nat.mod_eq_of_lt (show a < 2 ^ (64 * 4) from ha), Nat.mod_eq_of_lt (show b < 2 ^ (64 * 4) from hb)]
 refine Qf2 Tryz.func180 ?_
 refine (g4)<|(Qh 0) fun r1=>(Qh 1) fun r2=>(QH 2) fun r3=>(g3)<|(g4)<|(QH 3) fun r4=>Qn<|(gb)<|(gc)<|Qn<|Qb ?_
 refine Qz (fun kk E m => ∃ (k : Nat) (s : Nat → Nat), kk = 4 - k ∧ E = [(2, ptr r1), (3, ptr r2), (4, ptr r3), (6, ptr r4), (7, u (bor a b k)), (9, ii k)] ∧ m = [(0, some ⟨r1, arr .u64 4 (wd a), 122⟩), (1, some ⟨r2, arr .u64 4 (wd b), 122⟩), (2, some ⟨r3, arr .u64 4 (fun _ => 0), 122⟩), (3, some ⟨r4, arr .u64 4 s, 122⟩)] ∧ (k ≤ 4) ∧ (∀ j, j < k → s j = wd (a + 2 ^ 256 - b) j)) ⟨0, fun _ => 0, rfl, rfl, rfl, by omega, fun j hj => absurd hj (Nat.not_lt_zero j)⟩ ⟨rfl, rfl, rfl, rfl, by rw [z54]; rfl, rfl, trivial⟩ ⟨rfl, rfl, rfl, rfl, trivial⟩ ?_
 rintro kk E m ⟨k, s, rfl, rfl, rfl, hf0_0, hf0_1⟩
 have hcl := z7G a b k
 have hwl := xE b k
 refine (gt) ?_
 refine (Qcd) (fun hc0=>?_) fun hc0=>?_
 ·refine Qk<|Qs<|Qb<|Qs<|Qp<|(Qm)<|(Qa)<|Qn<|(Qq ⟨[r4], 1, [], none, none⟩)<|(Qm)<|(Qm)<|(Qi) ?_
  refine yg (i := 0) (Uu 31) rfl rfl rfl (ye (by omega)) rfl ⟨[3], rfl, rfl, trivial⟩ ?_
  refine (Qm)<|(Qi) ?_
  refine yg (i := 1) (Uu 31) rfl rfl rfl (ye (by omega)) rfl ⟨[3], rfl, rfl, trivial⟩ ?_
  refine (Qm) ?_
  refine vL rfl (fun w => zk4 _ _ _ (by omega) (by omega) w) rfl rfl ?_
  refine (ge)<|(Qi) ?_
  refine ZD (i := 3) (Uz 31) rfl rfl rfl (by omega) (.inr (by simp)) ?_
  refine (g3)<|(go) ?_
  refine Qzr ⟨k + 1, upd s k _, rfl, rfl, rfl, by omega, wF hf0_1 (z6f a b k (by omega) (by omega))⟩ ⟨rfl, rfl, rfl, rfl, by rw [← z6s]; rfl, rfl, trivial⟩ ⟨rfl, rfl, rfl, rfl, trivial⟩ ?_
  omega
 ·refine Qe<|Qs<|Qp<|(Qd 3)<|(Qm)<|(Qt 2)<|(Qa)<|Qn<|Qr ?_
  have hk4 : k = 4 := by omega
  subst hk4
  rw [← hfin, z51 (fun j hj => (hf0_1 j hj).trans (Vi _ j hj).symm)]
  exact ⟨_, _, rfl, ya 2, yt⟩
theorem Wt : Fp G 181 #[] (fe PP) := by
 refine Qf1 Tryz.func181 ?_
 refine (g4)<|(QH 0) fun r1=>(gg) ?_
 refine yG (arr .u64 4 (wd PP)) (Ub 122 rfl) (Uu 122 rfl) (Uz 31 rfl) rfl (by kernel_rfl) rfl ?_
 refine (Qt 0)<|Qn<|Qr ?_
 exact ⟨_, rfl, ya 0⟩
theorem z53 (a n : Nat) (hn : n ≤ 1) : Fp G 182 #[fe a, u n] (fe (a * n)) := by
 refine Qf1 Tryz.func182 ?_
 refine (g4)<|(Qh 0) fun r1=>(QH 1) fun r2=>Qn<|(gc)<|Qn<|Qb ?_
 refine Qz (fun kk E m => ∃ (k : Nat) (s : Nat → Nat), kk = 4 - k ∧ E = [(2, ptr r1), (1, u n), (4, ptr r2), (6, ii k)] ∧ m = [(0, some ⟨r1, arr .u64 4 s, 122⟩), (1, some ⟨r2, arr .u64 4 (fun _ => 0), 122⟩)] ∧ (k ≤ 4) ∧ (∀ j, j < k → s j = wd (a * n) j) ∧ (∀ j, k ≤ j → s j = wd a j)) ⟨0, wd a, rfl, rfl, rfl, by omega, fun j hj => absurd hj (Nat.not_lt_zero j), fun j _ => rfl⟩ ⟨rfl, rfl, rfl, rfl, trivial⟩ ⟨rfl, rfl, trivial⟩ ?_
 rintro kk E m ⟨k, s, rfl, rfl, rfl, hf0_0, hf0_1, hf0_2⟩
 refine (gt) ?_
 refine (Qcd) (fun hc0=>?_) fun hc0=>?_
 ·refine Qk<|Qs<|Qb<|Qs<|Qp<|(Qm)<|(Qa)<|Qn<|Qp<|(Qm)<|(Qi)<|(Q1 0)<|(Qm) ?_
  refine z4D rfl rfl (by omega) ?_
  refine z0q rfl rfl rfl  ?_
  refine (Qi)<|(Qu 0)<|Qn<|(go) ?_
  refine Qzr ⟨k + 1, upd s k _, rfl, rfl, rfl, by omega, wF hf0_1 (by rw [hf0_2 k (Nat.le_refl k)]; exact z56 a n k hn), z8w hf0_2⟩ ⟨rfl, rfl, rfl, rfl, trivial⟩ ⟨rfl, rfl, trivial⟩ ?_
  omega
 ·refine Qe<|Qs<|Qp<|(Qd 0)<|(Qt 1)<|Qn<|Qr ?_
  have hk4 : k = 4 := by omega
  subst hk4
  rw [z51 hf0_1]
  exact ⟨_, rfl, ya 1⟩
theorem vn (a : Nat) (ha : a < 2 ^ 256) : Fp G 186 #[fe a] (.bool (decide (a < PP))) := by
 have hPP := W0
 refine Qf1 Tryz.func186 ?_
 refine (g4)<|(Qh 0) fun r1=>(g3)<|(gy)<|(Qd 0) ?_
 refine (Ca Wt) ?_
 refine zC rfl (Un 180) (z1z _ _ (by omega) (by omega)) rfl rfl ?_
 refine (ge)<|(QH 1) fun r2=>(Qt 1)<|(gj)<|(Qc) ?_
 refine zi (z9T _ _) ?_
 refine (gh) ?_
 exact ⟨_, rfl, yt⟩
theorem z3G (a ov : Nat) (ha : a < 2 ^ 256) (ho : ov < 2 ^ 50) : Fp G 129 #[fe a, u ov] (fe ((a + ov * 2 ^ 256) % PP)) := by
 have hPP := W0
 have h255 : a / 2 ^ 255 ≤ 1 := by omega
 have h256 := Nat.mod_lt a (show 0 < 2 ^ 255 from Nat.pow_pos (by decide))
 obtain ⟨Y, hY⟩ : ∃ Y, Y = a % 2 ^ 255 + (2 * ov + a / 2 ^ 255) * 19 := ⟨_, rfl⟩
 have hY2 : Y < 2 ^ 256 := by omega
 obtain ⟨t, ht⟩ : ∃ t, t = (if Y < PP then 1 else 0) := ⟨_, rfl⟩
 have hb1 : t ≤ 1 := by rw [ht]; split <;> omega
 have hb2 : PP * t < 2 ^ 256 := by rw [hPP]; omega
 have hY3 : (a % 2 ^ 255 + (2 * ov + a / 2 ^ 255) * 19) % 2 ^ 256 = Y := by rw [← hY]; exact Nat.mod_eq_of_lt hY2
 have hm1 := Nat.mod_lt (Y + 2 ^ 256 - PP) (show 0 < 2 ^ 256 from Nat.pow_pos (by decide))
 refine Qf1 Tryz.func129 ?_
 refine (g4)<|(Qh 0) fun r1=>(QH 1) fun r2=>Qn<|(g5) ?_
 refine Wg (s := 1) rfl rfl rfl (by omega) ?_
 refine (Qj 3)<|(Q1 0)<|(Q8 63) ?_
 refine z0z rfl rfl rfl  ?_
 refine (Au (zjs a ov ha ho))<|(g3)<|(g4)<|(Qj 3)<|(Q1 0)<|(Q9 9223372036854775807)<|(Qj 3)<|(Qu 0)<|(gg)<|(Qd 0) ?_
 refine zi (z51 (z5y a ha)).symm ?_
 refine (Qm) ?_
 refine Xt (q := 19) rfl rfl rfl  ?_
 refine (Au (Nat.mod_eq_of_lt (show (2 * ov + a / 2 ^ 255) * 19 < 18446744073709551616 by omega))) ?_
 refine yG (arr .u64 4 (upd (fun _ => 0) 0 ((2 * ov + a / 2 ^ 255) * 19))) (Ub 122 rfl) (Uu 122 rfl) (Uz 31 rfl) rfl rfl rfl ?_
 refine zi (z1e ((2 * ov + a / 2 ^ 255) * 19) (by omega)) ?_
 refine zC rfl (Un 179) (z01 _ _ (by omega) (by omega)) rfl rfl ?_
 refine (Qm)<|(Qx) ?_
 refine zi (congrArg fe hY3) ?_
 refine (Qx)<|(Qt 0)<|Qn<|(gy)<|(Qd 0) ?_
 refine (Ca Wt) ?_
 refine zC rfl (Un 180) (z1z _ _ (by omega) (by omega)) rfl rfl ?_
 refine (ge) ?_
 refine (Au ht.symm)<|(QH 2) fun r3=>(Qt 2)<|(g3)<|(gy)<|(Qd 2) ?_
 refine (Ca Wt)<|(Qm) ?_
 refine zC rfl (Un 182) (z53 _ _ (by omega)) rfl rfl ?_
 refine zC rfl (Un 179) (z01 _ _ (by omega) (by omega)) rfl rfl ?_
 refine (ge)<|(Qt 2)<|(gg)<|(Qd 2)<|(Qt 1)<|Qn<|Qr ?_
 rw [← zgx a ov Y ha ho hY, ← ht]
 exact ⟨_, rfl, ya 1⟩
theorem ziJ (f : NN) (hf : L8 32 f) : Fp G 82 #[.agg (arr .u8 32 f)] (fe (vb f 32 % 2 ^ 255 % PP)) := by
 have hPP := W0
 refine Qf1 Tryz.func82 ?_
 refine (g4)<|(Qh 0) fun r1=>(QH 1) fun r2=>(gg)<|(QH 2) fun r3=>Qn<|(gc)<|Qn<|Qb ?_
 refine Qz (fun kk E m => ∃ (k : Nat) (s : Nat → Nat), kk = 32 - k ∧ E = [(1, ptr r1), (2, ptr r2), (3, ptr r3), (5, ii k)] ∧ m = [(0, some ⟨r1, arr .u8 32 f, 23⟩), (1, some ⟨r2, arr .u64 4 (fun _ => 0), 122⟩), (2, some ⟨r3, arr .u64 4 s, 122⟩)] ∧ (k ≤ 32) ∧ (∀ j, j < 4 → s j = wd (vb f k) j)) ⟨0, fun _ => 0, rfl, rfl, rfl, by omega, fun j _ => by simp [vb, wd]⟩ ⟨rfl, rfl, rfl, rfl, trivial⟩ ⟨rfl, rfl, rfl, trivial⟩ ?_
 rintro kk E m ⟨k, s, rfl, rfl, rfl, hf0_0, hf0_1⟩
 refine (gt) ?_
 refine (Qcd) (fun hc0=>?_) fun hc0=>?_
 ·refine Qk<|Qs<|Qb<|Qs<|Qp<|(Qm)<|(Qa)<|Qn<|(Qg)<|(Qm)<|(Q5 8)<|(Qi)<|(Q1 2)<|(Qm)<|(Qi)<|(Q1 0) ?_
  refine ZL (Uu 5) (Uu 31) rfl rfl rfl ?_
  refine (Qm)<|(Q4 8)<|(Q6 8) ?_
  refine Wg rfl rfl rfl (by omega) ?_
  refine z0z rfl rfl rfl  ?_
  refine (Qi)<|(Qu 2)<|Qn<|(go) ?_
  refine Qzr ⟨k + 1, upd s (k / 8) _, rfl, rfl, rfl, by omega, z3B f k s (by omega) hf hf0_1⟩ ⟨rfl, rfl, rfl, rfl, trivial⟩ ⟨rfl, rfl, rfl, trivial⟩ ?_
  omega
 ·have hk32 : k = 32 := by omega
  subst hk32
  have hA := zdy f s hf hf0_1
  refine Qe<|(g4)<|(Qj 3)<|(Q1 2)<|(Q9 9223372036854775807)<|(Qj 3)<|(Qu 2)<|(gg)<|(Qd 2) ?_
  refine zi hA ?_
  refine (Ca (z3G (vb f 32 % 2 ^ 255) 0 (by omega) (by omega)))<|(Qt 1)<|Qn<|Qr ?_
  rw [show vb f 32 % 2 ^ 255 % PP = (vb f 32 % 2 ^ 255 + 0 * 2 ^ 256) % PP by rw [Nat.zero_mul, Nat.add_zero]]
  exact ⟨_, rfl, ya 1⟩
theorem zdj (a : Nat) (ha : a < PP) : Fp G 134 #[fe a] (.tuple #[z7x a, ii 0]) := by
 have hPP := W0
 refine Qf2 Tryz.func134 ?_
 refine (g4)<|(Qh 0) fun r1=>(QH 1) fun r2=>(g3)<|(gu)<|(Qd 0) ?_
 refine zC rfl (Un 186) (vn _ (by omega)) rfl rfl ?_
 refine (Q0)<|Qn ?_
 refine ze rfl ?_ ?_
 ·intro hc0
  simp [ha] at hc0
 ·intro hc0
  refine Qk<|(g4)<|(QH 2) fun r3=>Qn<|(gc)<|Qn<|Qb ?_
  refine Qz (fun kk E m => ∃ (k : Nat) (s : Nat → Nat), kk = 32 - k ∧ E = [(1, ptr r1), (2, ptr r2), (4, ptr r3), (10, ii k)] ∧ m = [(0, some ⟨r1, arr .u64 4 (wd a), 122⟩), (1, some ⟨r2, arr .u8 32 (fun _ => 0), 23⟩), (2, some ⟨r3, arr .u8 32 s, 23⟩)] ∧ (k ≤ 32) ∧ (∀ j, j < k → s j = bt a j)) ⟨0, fun _ => 0, rfl, rfl, rfl, by omega, fun j hj => absurd hj (Nat.not_lt_zero j)⟩ ⟨rfl, rfl, rfl, rfl, trivial⟩ ⟨rfl, rfl, rfl, trivial⟩ ?_
  rintro kk E m ⟨k, s, rfl, rfl, rfl, hf0_0, hf0_1⟩
  refine (gt) ?_
  refine (Qcd) (fun hc1=>?_) fun hc1=>?_
  ·refine Qk<|Qs<|Qb<|Qs<|Qp<|(Qm)<|(Qa)<|Qn<|Qp<|(Qm)<|(Qm)<|(Q5 8)<|(Qi)<|(Q1 0)<|(Qm)<|(Q4 8)<|(Q6 8) ?_
   refine z03 rfl rfl rfl (by omega) ?_
   refine wi (Uu 31) (Uu 5) rfl rfl rfl ?_
   refine (Qi)<|(Qu 2)<|Qn<|(go) ?_
   refine Qzr ⟨k + 1, upd s k _, rfl, rfl, rfl, by omega, wF hf0_1 (z9P a k)⟩ ⟨rfl, rfl, rfl, rfl, trivial⟩ ⟨rfl, rfl, rfl, trivial⟩ ?_
   omega
  ·refine Qe<|Qs<|Qp<|(Qd 2)<|(Qt 1)<|(Qa)<|Qn<|Qr ?_
   have hk32 : k = 32 := by omega
   subst hk32
   rw [← zf7 hf0_1]
   exact ⟨_, _, rfl, ya 1, yt⟩
theorem z9t (a b c d : Nat) (ha : a < 18446744073709551616) (hb : b < 18446744073709551616) (hc : c < 18446744073709551616) (hd : d < 18446744073709551616) : Fp G 258 #[u a, u b, u c, u d] (.tuple #[u ((a * b + c + d) % 18446744073709551616), u ((a * b + c + d) / 18446744073709551616)]) := by
 have hp := z3N ha hb
 refine Qf2 Tryz.func258 ?_
 refine (g4)<|(g7)<|(g5)<|(Qm) ?_
 refine zC rfl (Un 276) (z65 _ _ (by omega) (by omega)) rfl rfl ?_
 refine (ge)<|(g7)<|(g5)<|(Qm) ?_
 refine vL rfl (fun w => z3q _ _ 0 (by omega) w) rfl rfl ?_
 refine (ge)<|(g7)<|(g5)<|(Qm)<|(Qau)<|(gj)<|(Qm) ?_
 refine vL rfl (fun w => z3q _ _ 0 (by omega) w) rfl rfl ?_
 refine (ge)<|(g7)<|(g5)<|(ga)<|(Qau)<|(gr) ?_
 rw [← za5, ← za3 _ _ _ hp hc hd]
 exact ⟨_, _, rfl, yt, yt⟩
theorem zhE (a b : Nat) (ha : a < 2 ^ 256) (hb : b < 2 ^ 256) : Fp G 257 #[fe a, fe b] (.agg (arr .u64 8 (wd (a * b)))) := by
 refine Qf1 Tryz.func257 ?_
 refine (g4)<|(Qh 0) fun r1=>(Qh 1) fun r2=>(QH 2) fun r3=>(gg)<|(QH 3) fun r4=>Qn<|(gc)<|Qn<|Qb ?_
 refine Qz (fun kk E m => ∃ (k : Nat) (s : Nat → Nat), kk = 4 - k ∧ E = [(2, ptr r1), (3, ptr r2), (4, ptr r3), (5, ptr r4), (9, ii k)] ∧ m = [(0, some ⟨r1, arr .u64 4 (wd a), 122⟩), (1, some ⟨r2, arr .u64 4 (wd b), 122⟩), (2, some ⟨r3, arr .u64 8 (fun _ => 0), 307⟩), (3, some ⟨r4, arr .u64 8 s, 307⟩)] ∧ (k ≤ 4) ∧ (∀ t, t < 8 → s t = wd (a % 2 ^ (64 * k) * b) t)) ⟨0, fun _ => 0, rfl, rfl, rfl, by omega, fun t _ => by simp [Nat.mod_one, wd]⟩ ⟨rfl, rfl, rfl, rfl, rfl, trivial⟩ ⟨rfl, rfl, rfl, rfl, trivial⟩ ?_
 rintro kk E m ⟨k, s, rfl, rfl, rfl, hf0_0, hf0_1⟩
 refine (gt) ?_
 refine (Qcd) (fun hc0=>?_) fun hc0=>?_
 ·refine Qk<|Qs<|Qb<|Qs<|Qp<|(Qm)<|(Qa)<|Qn<|Qs<|Qp<|(Qa)<|Qn<|Qs<|Qs<|Qp<|(Qm)<|Qn<|Qb ?_
  refine Qz (fun kk E m => ∃ (j : Nat) (s2 : Nat → Nat), kk = 4 - j ∧ E = [(2, ptr r1), (3, ptr r2), (4, ptr r3), (5, ptr r4), (9, ii k), (6, ii k), (7, u (wO a b k j)), (12, ii j)] ∧ m = [(0, some ⟨r1, arr .u64 4 (wd a), 122⟩), (1, some ⟨r2, arr .u64 4 (wd b), 122⟩), (2, some ⟨r3, arr .u64 8 (fun _ => 0), 307⟩), (3, some ⟨r4, arr .u64 8 s2, 307⟩)] ∧ (j ≤ 4) ∧ (∀ t, t < k + j → s2 t = wd (wS a b k j) t) ∧ (∀ t, k + j ≤ t → t < 8 → s2 t = wd (a % 2 ^ (64 * k) * b) t)) ⟨0, s, rfl, rfl, rfl, by omega, fun t ht => (hf0_1 t (by omega)).trans (z8H a b k t (by omega)).symm, fun t _ ht => hf0_1 t ht⟩ ⟨rfl, rfl, rfl, rfl, rfl, rfl, by rw [z4v]; rfl, rfl, trivial⟩ ⟨rfl, rfl, rfl, rfl, trivial⟩ ?_
  rintro kk E m ⟨j, s2, rfl, rfl, rfl, hf1_0, hf1_1, hf1_2⟩
  have ha1 := xE a k
  have hb1 := xE b j
  have ho1 := zkf a b k j (by omega)
  have hs2 : (j : Int) < 4 → s2 (k + j) = wd (a % 2 ^ (64 * k) * b) (k + j) := fun h => hf1_2 (k + j) (by omega) (by omega)
  refine (gt) ?_
  refine (Qcd) (fun hc1=>?_) fun hc1=>?_
  ·refine Qk<|Qs<|Qb<|Qs<|Qp<|(Qm)<|(Qa)<|Qn<|(Qg)<|(Qm)<|(Qm)<|(Q3)<|(Qm)<|(Qi)<|(Q1 0)<|(Qm)<|(Qi)<|(Q1 1)<|(Qm)<|(Qm)<|(Q3)<|(Qi)<|(Q1 3)<|(Qm) ?_
   have hs3 := xE (a % 2 ^ (64 * k) * b) (k + j); have hs4 := hs2 hc1
   refine zC rfl (Un 258) (z9t _ _ _ _ (by omega) (by omega) (by omega) (by omega)) rfl rfl ?_
   refine (ge)<|(Qi)<|(Qu 3)<|(g3)<|(go) ?_
   refine Qzr ⟨j + 1, upd s2 (k + j) _, rfl, rfl, rfl, by omega, by rw [hs2 hc1]; exact z32 hf1_1, fun t h1 h2 => by rw [← hf1_2 t (by omega) h2]; unfold upd; rw [if_neg (by omega)]⟩ ⟨rfl, rfl, rfl, rfl, rfl, rfl, by rw [← z4x, ← hs2 hc1]; rfl, rfl, trivial⟩ ⟨rfl, rfl, rfl, rfl, trivial⟩ ?_
   omega
  ·have hj4 : j = 4 := by omega
   subst hj4
   refine Qe<|Qp<|(Qm)<|(Q2 4)<|(Qm)<|(Qi)<|(Qu 3)<|Qn<|(go) ?_
   refine Qzr ⟨k + 1, upd s2 (k + 4) _, rfl, rfl, rfl, by omega, zcQ hb hf1_1 hf1_2⟩ ⟨rfl, rfl, rfl, rfl, rfl, trivial⟩ ⟨rfl, rfl, rfl, rfl, trivial⟩ ?_
   omega
 ·refine Qe<|Qs<|Qp<|(Qd 3)<|(Qt 2)<|Qn<|Qr ?_
  have hk4 : k = 4 := by omega
  subst hk4
  rw [Nat.mod_eq_of_lt (show a < 2 ^ (64 * 4) from ha)] at hf0_1
  rw [← zz hf0_1]
  exact ⟨_, rfl, ya 2⟩
theorem XJ (a b : Nat) (ha : a < 2 ^ 256) (hb : b < 2 ^ 256) : Fp G 232 #[fe a, fe b] (fe (a * b % PP)) := by
 refine Qf1 Tryz.func232 ?_
 refine (g4)<|(Qh 0) fun r1=>(Qh 1) fun r2=>(QH 2) fun r3=>(gg)<|(Qd 0)<|(Qd 1) ?_
 refine zC rfl (Un 257) (zhE _ _ (by omega) (by omega)) rfl rfl ?_
 refine (QH 3) fun r4=>(Qt 3)<|(gg)<|(QH 4) fun r5=>Qn<|(gb)<|(gc)<|Qn<|Qb ?_
 refine Qz (fun kk E m => ∃ (k : Nat) (s : Nat → Nat), kk = 4 - k ∧ E = [(4, ptr r3), (5, ptr r4), (6, ptr r5), (7, u (pS (a * b) k / 2 ^ (64 * k))), (12, ii k)] ∧ m = [(0, some ⟨r1, arr .u64 4 (wd a), 122⟩), (1, some ⟨r2, arr .u64 4 (wd b), 122⟩), (2, some ⟨r3, arr .u64 4 (fun _ => 0), 122⟩), (3, some ⟨r4, arr .u64 8 (wd (a * b)), 307⟩), (4, some ⟨r5, arr .u64 4 s, 122⟩)] ∧ (k ≤ 4) ∧ (∀ t, t < k → s t = wd (pS (a * b) k) t)) ⟨0, fun _ => 0, rfl, rfl, rfl, by omega, fun t ht => absurd ht (Nat.not_lt_zero t)⟩ ⟨rfl, rfl, rfl, by rw [zhD]; rfl, rfl, trivial⟩ ⟨rfl, rfl, rfl, rfl, rfl, trivial⟩ ?_
 rintro kk E m ⟨k, s, rfl, rfl, rfl, hf0_0, hf0_1⟩
 have hw1 := xE (a * b) k
 have hw2 := xE (a * b) (k + 4)
 have hov := znb (a * b) k
 refine (gt) ?_
 refine (Qcd) (fun hc0=>?_) fun hc0=>?_
 ·refine Qk<|Qs<|Qb<|Qs<|Qp<|(Qm)<|(Qa)<|Qn<|(Qq ⟨[r5], 1, [], none, none⟩)<|(Qm)<|(Qm)<|(Q2 4)<|(Qi) ?_
  refine yg (i := 3) (Uu 31) rfl rfl rfl (ye (by omega)) rfl ⟨[4], rfl, rfl, trivial⟩ ?_
  refine (Qm)<|(Qi) ?_
  refine yg (i := 3) (Uu 31) rfl rfl rfl (ye (by omega)) rfl ⟨[4], rfl, rfl, trivial⟩ ?_
  refine (Qm) ?_
  refine zC rfl (Un 258) (z9t _ 38 _ _ (by omega) (by omega) (by omega) (by omega)) rfl rfl ?_
  refine (ge)<|(Qi) ?_
  refine ZD (i := 4) (Uz 31) rfl rfl rfl (by omega) (.inr (by simp)) ?_
  refine (g3)<|(go) ?_
  refine Qzr ⟨k + 1, upd s k _, rfl, rfl, rfl, by omega, zkK hf0_1⟩ ⟨rfl, rfl, rfl, by rw [← znE]; rfl, rfl, trivial⟩ ⟨rfl, rfl, rfl, rfl, rfl, trivial⟩ ?_
  omega
 ·have hk4 : k = 4 := by omega
  subst hk4
  refine Qe<|(g4)<|(Qd 4) ?_
  refine zi (z51 (fun j hj => (hf0_1 j hj).trans (Vi _ j hj).symm)).symm ?_
  refine (Qm) ?_
  refine zC rfl (Un 129) (z3G _ _ (Nat.mod_lt _ (Nat.pow_pos (by decide))) (by omega)) rfl rfl ?_
  refine (Qt 2)<|Qn<|Qr ?_
  rw [← zmy (a * b) (zc2 ha hb)]
  exact ⟨_, rfl, ya 2⟩
theorem z70 (a : Nat) (ha : a < 2 ^ 256) : Fp G 187 #[fe a] (fe (a ^ EE % PP)) := by
 have hPP := W0
 refine Qf1 Tryz.func187 ?_
 refine (g4)<|(Qh 0) fun r1=>(QH 1) fun r2=>(gg) ?_
 refine yG (arr .u64 4 (upd (fun _ => 0) 0 1)) (Ub 122 rfl) (Uu 122 rfl) (Uz 31 rfl) rfl rfl rfl ?_
 refine zi (z1e 1 (by decide)) ?_
 refine (QH 2) fun r3=>(Qt 2)<|Qn<|Qs<|(gb)<|Qb ?_
 refine Qz (fun kk E m => ∃ (k : Nat) (pw : Nat), kk = 255 - k ∧ E = [(1, ptr r1), (2, ptr r2), (3, ptr r3), (4, .int .i64 (254 - (k : Nat)))] ∧ m = [(0, some ⟨r1, arr .u64 4 (wd a), 122⟩), (1, some ⟨r2, arr .u64 4 (fun _ => 0), 122⟩), (2, some ⟨r3, arr .u64 4 (wd pw), 122⟩)] ∧ (k ≤ 255) ∧ (pw = a ^ (EE / 2 ^ (255 - k)) % PP)) ⟨0, 1, rfl, rfl, rfl, by omega, zbv a⟩ ⟨rfl, rfl, rfl, rfl, trivial⟩ ⟨rfl, rfl, rfl, trivial⟩ ?_
 rintro kk E m ⟨k, pw, rfl, rfl, rfl, hf0_0, hf0_1⟩
 have hpw : pw < 2 ^ 256 := by have := Nat.mod_lt (a ^ (EE / 2 ^ (255 - k))) (show 0 < PP by decide); omega
 have hq := Nat.mod_lt (pw * pw) (show 0 < PP by decide)
 refine (gc)<|(QE)<|Qn ?_
 refine (Qcd) (fun hc0=>?_) fun hc0=>?_
 ·refine Qk<|Qs<|Qb<|Qs<|Qp<|(Qd 2)<|(Qd 2) ?_
  refine zC rfl (Un 232) (XJ _ _ (by omega) (by omega)) rfl rfl ?_
  refine (Qt 2)<|Qn ?_
  rcases (show (k = 252 ∨ k = 250) ∨ ¬ (k = 252 ∨ k = 250) by omega) with (h252 | h250) | hno
  ·skip
   refine (g5)<|(QN)<|(Qaf)<|(Qm)<|(g6)<|(QF)<|(gp)<|Qp<|(Qm) ?_
   refine Wh (q := 1) rfl rfl rfl (by omega) (by omega) ?_
   refine (g3) ?_
   refine Qzr ⟨k + 1, _, rfl, rfl, rfl, by omega, z6J a k pw (by omega) (.inl h252) hf0_1⟩ ⟨rfl, rfl, rfl, congrArg (fun z => some (Value.int .i64 z)) (show (254 - (k : Int) - 1) = 254 - ((k + 1 : Nat) : Int) by omega), trivial⟩ ⟨rfl, rfl, rfl, trivial⟩ ?_
   omega
  ·skip
   refine (g5)<|(QN)<|(Qat)<|(gk)<|(QN)<|(Qaf)<|(QT)<|(gp)<|Qp<|(Qm) ?_
   refine Wh (q := 1) rfl rfl rfl (by omega) (by omega) ?_
   refine (g3) ?_
   refine Qzr ⟨k + 1, _, rfl, rfl, rfl, by omega, z6J a k pw (by omega) (.inr h250) hf0_1⟩ ⟨rfl, rfl, rfl, congrArg (fun z => some (Value.int .i64 z)) (show (254 - (k : Int) - 1) = 254 - ((k + 1 : Nat) : Int) by omega), trivial⟩ ⟨rfl, rfl, rfl, trivial⟩ ?_
   omega
  ·skip
   refine (g5)<|(QN)<|(Qat)<|(gk)<|(QN)<|(Qat)<|(QT)<|Qn<|(Qct)<|Qp<|(Qd 2)<|(Qd 0) ?_
   refine zC rfl (Un 232) (XJ _ _ (by omega) (by omega)) rfl rfl ?_
   refine (Qt 2)<|Qn<|Qp<|(Qm) ?_
   refine Wh (q := 1) rfl rfl rfl (by omega) (by omega) ?_
   refine (g3) ?_
   refine Qzr ⟨k + 1, _, rfl, rfl, rfl, by omega, zfr a k pw (by omega) hno hf0_1⟩ ⟨rfl, rfl, rfl, congrArg (fun z => some (Value.int .i64 z)) (show (254 - (k : Int) - 1) = 254 - ((k + 1 : Nat) : Int) by omega), trivial⟩ ⟨rfl, rfl, rfl, trivial⟩ ?_
   omega
 ·have hk : k = 255 := by omega
  subst hk
  refine Qe<|(g4)<|(Qd 2)<|(Qt 1)<|Qn<|Qr ?_
  rw [zdU] at hf0_1
  rw [← hf0_1]
  exact ⟨_, rfl, ya 1⟩
theorem zm6 (a b : Nat) (ha : a < PP) (hb : b < PP) : Fp G 230 #[fe a, fe b] (.tuple #[fe ((a + b) % PP), ii 0]) := by
 have hPP := W0
 refine Qf2 Tryz.func230 ?_
 refine (g4)<|(Qh 0) fun r1=>(Qh 1) fun r2=>(QH 2) fun r3=>(g3)<|(gu)<|(Qd 0) ?_
 refine zC rfl (Un 186) (vn _ (by omega)) rfl rfl ?_
 refine (Q0) ?_
 refine (Ab (show (!decide (a < PP)) = false by simp [ha]))<|(g8)<|(Qd 1)<|(Qy) ?_
 refine zC rfl (Un 186) (vn _ (by omega)) rfl rfl ?_
 refine (Qy)<|(Q0) ?_
 refine (Ab (show (!decide (b < PP)) = false by simp [hb]))<|(QF)<|(gp)<|(g4)<|(Qd 0)<|(Qd 1) ?_
 refine zC rfl (Un 179) (z01 _ _ (by omega) (by omega)) rfl rfl ?_
 refine (Qm)<|(Qx) ?_
 refine zi (congrArg fe (Nat.mod_eq_of_lt (show a + b < 2 ^ 256 by omega))) ?_
 refine (Qx)<|(QH 3) fun r4=>(Qt 3)<|(g3)<|(g4)<|(Qd 3) ?_
 refine zC rfl (Un 129) (z3G _ 0 (by omega) (by omega)) rfl rfl ?_
 refine (Qt 2)<|(gh) ?_
 rw [show (a + b) % PP = (a + b + 0 * 2 ^ 256) % PP by rw [Nat.zero_mul, Nat.add_zero]]
 exact ⟨_, _, rfl, ya 2, yt⟩
theorem zmx (a b : Nat) (ha : a < PP) (hb : b < PP) : Fp G 231 #[fe a, fe b] (.tuple #[fe ((a + PP - b) % PP), ii 0]) := by
 have hPP := W0
 obtain ⟨t, ht⟩ : ∃ t, t = (if a < b then 1 else 0) := ⟨_, rfl⟩
 have hb1 : t ≤ 1 := by rw [ht]; split <;> omega
 have hb2 : PP * t < 2 ^ 256 := by rw [hPP]; omega
 have hm1 := Nat.mod_lt (a + 2 ^ 256 - b) (show 0 < 2 ^ 256 from Nat.pow_pos (by decide))
 refine Qf2 Tryz.func231 ?_
 refine (g4)<|(Qh 0) fun r1=>(Qh 1) fun r2=>(QH 2) fun r3=>(g3)<|(gu)<|(Qd 0) ?_
 refine zC rfl (Un 186) (vn _ (by omega)) rfl rfl ?_
 refine (Q0) ?_
 refine (Ab (show (!decide (a < PP)) = false by simp [ha]))<|(g8)<|(Qd 1)<|(Qy) ?_
 refine zC rfl (Un 186) (vn _ (by omega)) rfl rfl ?_
 refine (Qy)<|(Q0) ?_
 refine (Ab (show (!decide (b < PP)) = false by simp [hb]))<|(QF)<|(gp)<|(g4)<|(Qd 0)<|(Qd 1) ?_
 refine zC rfl (Un 180) (z1z _ _ (by omega) (by omega)) rfl rfl ?_
 refine (ge) ?_
 refine (Au ht.symm)<|(QH 3) fun r4=>(Qt 3)<|(g3)<|(gy)<|(Qd 3) ?_
 refine (Ca Wt)<|(Qm) ?_
 refine zC rfl (Un 182) (z53 _ _ (by omega)) rfl rfl ?_
 refine zC rfl (Un 179) (z01 _ _ (by omega) (by omega)) rfl rfl ?_
 refine (ge)<|(Qt 3)<|(gg)<|(Qd 3)<|(Qt 2)<|(gh) ?_
 rw [← zis a b ha hb, ← ht]
 exact ⟨_, _, rfl, ya 2, yt⟩
theorem zml (a b : Nat) (ha : a < PP) (hb : b < PP) : Fp G 188 #[fe a, fe b] (.tuple #[fe (a * b % PP), ii 0]) := by
 have hPP := W0
 refine Qf2 Tryz.func188 ?_
 refine (g4)<|(Qh 0) fun r1=>(Qh 1) fun r2=>(QH 2) fun r3=>(g3)<|(gu)<|(Qd 0) ?_
 refine zC rfl (Un 186) (vn _ (by omega)) rfl rfl ?_
 refine (Q0) ?_
 refine (Ab (show (!decide (a < PP)) = false by simp [ha]))<|(g8)<|(Qd 1)<|(Qy) ?_
 refine zC rfl (Un 186) (vn _ (by omega)) rfl rfl ?_
 refine (Qy)<|(Q0) ?_
 refine (Ab (show (!decide (b < PP)) = false by simp [hb]))<|(QF)<|(gp)<|(g4)<|(Qd 0)<|(Qd 1) ?_
 refine zC rfl (Un 232) (XJ _ _ (by omega) (by omega)) rfl rfl ?_
 refine (Qt 2)<|(gh) ?_
 exact ⟨_, _, rfl, ya 2, yt⟩
theorem zlO (a : Nat) (ha : a < PP) : Fp G 133 #[fe a] (.tuple #[fe (a ^ EE % PP), ii 0]) := by
 have hPP := W0
 refine Qf2 Tryz.func133 ?_
 refine (g4)<|(Qh 0) fun r1=>(QH 1) fun r2=>(g3)<|(gu)<|(Qd 0) ?_
 refine zC rfl (Un 186) (vn _ (by omega)) rfl rfl ?_
 refine (Q0) ?_
 refine (Ab (show (!decide (a < PP)) = false by simp [ha]))<|(gp)<|(g4)<|(Qd 0) ?_
 refine zC rfl (Un 187) (z70 _ (by omega)) rfl rfl ?_
 refine (Qt 1)<|(gh) ?_
 exact ⟨_, _, rfl, ya 1, yt⟩
theorem Wq (a b : Nat) (ha : a < PP) (hb : b < PP) : Fp G 184 #[fe a, fe b] (fe ((a + b) % PP)) := by
 refine Qf1 Tryz.func184 ?_
 refine (g4)<|(Qh 0) fun r1=>(Qh 1) fun r2=>(QH 2) fun r3=>(gg)<|(Qd 0)<|(Qd 1) ?_
 refine (Ca (zm6 a b ha hb))<|(ge)<|(QH 3) fun r4=>(Qt 3)<|(g3)<|(g4)<|(Qd 3)<|(Qt 2)<|Qn<|Qr ?_
 exact ⟨_, rfl, ya 2⟩
theorem W4 (a b : Nat) (ha : a < PP) (hb : b < PP) : Fp G 185 #[fe a, fe b] (fe ((a + PP - b) % PP)) := by
 refine Qf1 Tryz.func185 ?_
 refine (g4)<|(Qh 0) fun r1=>(Qh 1) fun r2=>(QH 2) fun r3=>(gg)<|(Qd 0)<|(Qd 1) ?_
 refine (Ca (zmx a b ha hb))<|(ge)<|(QH 3) fun r4=>(Qt 3)<|(g3)<|(g4)<|(Qd 3)<|(Qt 2)<|Qn<|Qr ?_
 exact ⟨_, rfl, ya 2⟩
theorem Zk (a b : Nat) (ha : a < PP) (hb : b < PP) : Fp G 135 #[fe a, fe b] (fe (a * b % PP)) := by
 refine Qf1 Tryz.func135 ?_
 refine (g4)<|(Qh 0) fun r1=>(Qh 1) fun r2=>(QH 2) fun r3=>(gg)<|(Qd 0)<|(Qd 1) ?_
 refine (Ca (zml a b ha hb))<|(ge)<|(QH 3) fun r4=>(Qt 3)<|(g3)<|(g4)<|(Qd 3)<|(Qt 2)<|Qn<|Qr ?_
 exact ⟨_, rfl, ya 2⟩
theorem Yg (a : Nat) (ha : a < PP) : Fp G 183 #[fe a] (fe (a * a % PP)) := by
 refine Qf1 Tryz.func183 ?_
 refine (g4)<|(Qh 0) fun r1=>(QH 1) fun r2=>(gg)<|(Qd 0)<|(Qd 0) ?_
 refine (Ca (Zk a a ha ha))<|(Qt 1)<|Qn<|Qr ?_
 exact ⟨_, rfl, ya 1⟩
theorem zfe (p : Nat × Nat) (h : Lt2 p) : Fp G 131 #[ptv p] (ptv (z1Z p)) := by
 obtain ⟨pl, hpl⟩ : ∃ pl, pl = (p.1 + p.2) % PP * ((p.1 + p.2) % PP) % PP := ⟨_, rfl⟩
 have hplL : pl < PP := by rw [hpl]; exact Nat.mod_lt _ (by decide)
 obtain ⟨mi, hmi⟩ : ∃ mi, mi = (p.1 + PP - p.2) % PP * ((p.1 + PP - p.2) % PP) % PP := ⟨_, rfl⟩
 have hmiL : mi < PP := by rw [hmi]; exact Nat.mod_lt _ (by decide)
 obtain ⟨re, hre⟩ : ∃ re, re = (pl + PP - mi) % PP := ⟨_, rfl⟩
 have hreL : re < PP := by rw [hre]; exact Nat.mod_lt _ (by decide)
 refine Qf1 Tryz.func131 ?_
 refine (g4)<|(Qh 0) fun r1=>(QH 1) fun r2=>(gg)<|(QA 0 0)<|(Qls 0) ?_
 refine zi (zgi _) ?_
 refine (QA 4 1)<|(Qls 0) ?_
 refine zi (zfh _) ?_
 refine (Ca (Wq _ _ h.1 h.2)) ?_
 refine zC rfl (Un 183) (Yg _ (Nat.mod_lt _ (by decide))) rfl rfl ?_
 refine zi (congrArg fe hpl.symm) ?_
 refine (QH 2) fun r3=>(Qt 2)<|(gg)<|(QA 0 0)<|(Qls 0) ?_
 refine zi (zgi _) ?_
 refine (QA 4 1)<|(Qls 0) ?_
 refine zi (zfh _) ?_
 refine (Ca (W4 _ _ h.1 h.2)) ?_
 refine zC rfl (Un 183) (Yg _ (Nat.mod_lt _ (by decide))) rfl rfl ?_
 refine zi (congrArg fe hmi.symm) ?_
 refine (QH 3) fun r4=>(Qt 3)<|(gg)<|(Qd 2)<|(Qd 3) ?_
 refine (Ca (W4 _ _ hplL hmiL)) ?_
 refine zi (congrArg fe hre.symm) ?_
 refine (QH 4) fun r5=>(Qt 4)<|Qn<|(gy)<|(Qd 2)<|(Qd 3) ?_
 refine (Ca (Zk _ _ hplL hmiL)) ?_
 refine zi (congrArg fe (znj h.2 hpl hmi)) ?_
 refine (Qd 4)<|(Qd 2) ?_
 refine yG (arr .u64 4 (upd (fun _ => 0) 0 121665)) (Ub 122 rfl) (Uu 122 rfl) (Uz 31 rfl) rfl rfl rfl ?_
 refine zi (z1e 121665 (by decide)) ?_
 refine (Qd 4) ?_
 refine zC rfl (Un 135) (Zk _ _ (by decide) hreL) rfl rfl ?_
 refine zC rfl (Un 184) (Wq _ _ hplL (Nat.mod_lt _ (by decide))) rfl rfl ?_
 refine zC rfl (Un 135) (Zk _ _ hreL (Nat.mod_lt _ (by decide))) rfl rfl ?_
 refine zi (congrArg fe (zo3 h.2 hpl hmi hre)) ?_
 refine wC _ (Ub 125 rfl) (Uu 125 rfl) (Uz 122 rfl) rfl (VT _ _) rfl ?_
 refine (Qt 1)<|Qn<|Qr ?_
 exact ⟨_, rfl, ya 1⟩
theorem zjT (L : (Nat × Nat) × (Nat × Nat)) (U : Nat) (h : Lt2 L.1 ∧ Lt2 L.2) (hU : U < PP) : Fp G 132 #[rgv L, fe U] (ptv (ZM U L.1 L.2)) := by
 obtain ⟨a, ha⟩ : ∃ a, a = (L.2.1 + PP - L.2.2) % PP * ((L.1.1 + L.1.2) % PP) % PP := ⟨_, rfl⟩
 have haL : a < PP := by rw [ha]; exact Nat.mod_lt _ (by decide)
 obtain ⟨b, hb⟩ : ∃ b, b = (L.2.1 + L.2.2) % PP * ((L.1.1 + PP - L.1.2) % PP) % PP := ⟨_, rfl⟩
 have hbL : b < PP := by rw [hb]; exact Nat.mod_lt _ (by decide)
 refine Qf1 Tryz.func132 ?_
 refine (g4)<|(Qh 0) fun r1=>(Qh 1) fun r2=>(QH 2) fun r3=>Qn<|(gy)<|(QA 8 1)<|(QA 8 0)<|(Qls 0) ?_
 refine zi (znW _) ?_
 refine (QA 8 1)<|(QA 12 1)<|(Qls 0) ?_
 refine zi (zk3 _) ?_
 refine (Ca (W4 _ _ h.2.1 h.2.2))<|(QA 0 0)<|(QA 0 0)<|(Qls 0) ?_
 refine zi (zn2 _) ?_
 refine (QA 0 0)<|(QA 4 1)<|(Qls 0) ?_
 refine zi (znm _) ?_
 refine (Ca (Wq _ _ h.1.1 h.1.2)) ?_
 refine zC rfl (Un 135) (Zk _ _ (Nat.mod_lt _ (by decide)) (Nat.mod_lt _ (by decide))) rfl rfl ?_
 refine zi (congrArg fe ha.symm) ?_
 refine (QH 3) fun r4=>(Qt 3)<|Qn<|(gy)<|(QA 8 1)<|(QA 8 0)<|(Qls 0) ?_
 refine zi (znW _) ?_
 refine (QA 8 1)<|(QA 12 1)<|(Qls 0) ?_
 refine zi (zk3 _) ?_
 refine (Ca (Wq _ _ h.2.1 h.2.2))<|(QA 0 0)<|(QA 0 0)<|(Qls 0) ?_
 refine zi (zn2 _) ?_
 refine (QA 0 0)<|(QA 4 1)<|(Qls 0) ?_
 refine zi (znm _) ?_
 refine (Ca (W4 _ _ h.1.1 h.1.2)) ?_
 refine zC rfl (Un 135) (Zk _ _ (Nat.mod_lt _ (by decide)) (Nat.mod_lt _ (by decide))) rfl rfl ?_
 refine zi (congrArg fe hb.symm) ?_
 refine (QH 4) fun r5=>(Qt 4)<|Qn<|(gy)<|(Qd 3)<|(Qd 4) ?_
 refine (Ca (Wq _ _ haL hbL)) ?_
 refine zC rfl (Un 183) (Yg _ (Nat.mod_lt _ (by decide))) rfl rfl ?_
 refine (Qd 1)<|(Qd 3)<|(Qd 4) ?_
 refine (Ca (W4 _ _ haL hbL)) ?_
 refine zC rfl (Un 183) (Yg _ (Nat.mod_lt _ (by decide))) rfl rfl ?_
 refine zC rfl (Un 135) (Zk _ _ hU (Nat.mod_lt _ (by decide))) rfl rfl ?_
 refine wC _ (Ub 125 rfl) (Uu 125 rfl) (Uz 122 rfl) rfl (VT _ _) rfl ?_
 refine zi (congrArg ptv ((ziY h.1.2 h.2.2 U ha hb).symm.trans (z1c h.1.2 h.2.2 U))) ?_
 refine (Qt 2)<|Qn<|Qr ?_
 exact ⟨_, rfl, ya 2⟩
theorem z6T (L : (Nat × Nat) × (Nat × Nat)) (n : Nat) (hn : n ≤ 1) : Fp G 130 #[rgv L, u n] (rgv (swp n L)) := by
 refine Qf1 Tryz.func130 ?_
 refine (g4)<|(Qh 0) fun r1=>(QH 1) fun r2=>Qn<|(gc)<|Qn<|Qb ?_
 refine Qz (fun kk E m => ∃ (k : Nat) (s : Nat → Nat), kk = 2 - k ∧ E = [(1, u n), (2, ptr r1), (4, ptr r2), (8, ii k)] ∧ m = [(0, some ⟨r1, arr .u64 16 s, 127⟩), (1, some ⟨r2, arr .u64 16 (fun _ => 0), 127⟩)] ∧ (k ≤ 2) ∧ (∀ t, t < 16 → s t = swt n (rgf L) (4 * k) t)) ⟨0, rgf L, rfl, rfl, rfl, by omega, fun t _ => (zff n (rgf L) t).symm⟩ ⟨rfl, rfl, rfl, rfl, trivial⟩ ⟨rfl, rfl, trivial⟩ ?_
 rintro kk E m ⟨k, s, rfl, rfl, rfl, hf0_0, hf0_1⟩
 refine (gt) ?_
 refine (Qcd) (fun hc0=>?_) fun hc0=>?_
 ·refine Qk<|Qs<|Qb<|Qs<|Qp<|(Qm)<|(Qa)<|Qn<|Qs<|Qp<|(Qm)<|Qn<|Qb ?_
  refine Qz (fun kk E m => ∃ (j : Nat) (s2 : Nat → Nat), kk = 4 - j ∧ E = [(1, u n), (2, ptr r1), (4, ptr r2), (8, ii k), (5, ii k), (11, ii j)] ∧ m = [(0, some ⟨r1, arr .u64 16 s2, 127⟩), (1, some ⟨r2, arr .u64 16 (fun _ => 0), 127⟩)] ∧ (j ≤ 4) ∧ (∀ t, t < 16 → s2 t = swt n (rgf L) (4 * k + j) t)) ⟨0, s, rfl, rfl, rfl, by omega, hf0_1⟩ ⟨rfl, rfl, rfl, rfl, rfl, rfl, trivial⟩ ⟨rfl, rfl, trivial⟩ ?_
  rintro kk E m ⟨j, s2, rfl, rfl, rfl, hf1_0, hf1_1⟩
  refine (gt) ?_
  refine (Qcd) (fun hc1=>?_) fun hc1=>?_
  ·refine Qk<|Qs<|Qb<|Qs<|Qp<|(Qm)<|(Qa)<|Qn<|Qs<|(Qg)<|(Qm)<|(Qm)<|(QA 0 0)<|(QB (4 * k))<|(QB (4 * k + j))<|(Q1 0)<|(Qm)<|(Qm)<|(QA 8 1)<|(QB (8 + 4 * k))<|(QB (8 + (4 * k + j)))<|(Q1 0) ?_
   refine z3Q rfl rfl rfl  ?_
   refine (Qm) ?_
   refine z4D rfl rfl (by omega) ?_
   refine z0q rfl rfl rfl  ?_
   refine (g3)<|(gy)<|(ga)<|(QA 0 0)<|(QB (4 * k))<|(QB (4 * k + j))<|(Q1 0)<|(Qm) ?_
   refine z3Q rfl rfl rfl  ?_
   refine (QA 0 0)<|(QB (4 * k))<|(QB (4 * k + j))<|(Qu 0)<|Qn<|(Qg)<|(ga)<|(QA 8 1)<|(QB (8 + 4 * k))<|(QB (8 + (4 * k + j)))<|(Q1 0)<|(Qm) ?_
   refine z3Q rfl rfl rfl  ?_
   refine (QA 8 1)<|(QB (8 + 4 * k))<|(QB (8 + (4 * k + j)))<|(Qu 0)<|Qn<|(go) ?_
   refine Qzr ⟨j + 1, upd (upd s2 (4 * k + j) _) (8 + (4 * k + j)) _, rfl, rfl, rfl, by omega, zbw (c := 4 * k + j) hn (zlv L) (by omega) hf1_1 _ _ _ rfl rfl rfl⟩ ⟨rfl, rfl, rfl, rfl, rfl, rfl, trivial⟩ ⟨rfl, rfl, trivial⟩ ?_
   omega
  ·have hj4 : j = 4 := by omega
   subst hj4
   refine Qe<|(go) ?_
   refine Qzr ⟨k + 1, s2, rfl, rfl, rfl, by omega, by rw [show 4 * (k + 1) = 4 * k + 4 by omega]; exact hf1_1⟩ ⟨rfl, rfl, rfl, rfl, trivial⟩ ⟨rfl, rfl, trivial⟩ ?_
   omega
 ·have hk2 : k = 2 := by omega
  subst hk2
  refine Qe<|(g4)<|(Qd 0)<|(Qt 1)<|Qn<|Qr ?_
  rw [rgv, ← zg6 hf0_1]
  exact ⟨_, rfl, ya 1⟩
theorem zbQ (f : NN) (hf : L8 32 f) : Fp G 86 #[.agg (arr .u8 32 f)] (.bool (!y4 32 f (fun _ => 0))) := by
 refine Qf1 Tryz.func86 ?_
 refine (g4)<|(Qh 0) fun r1=>(g3)<|(gb)<|(gu)<|(Qd 0)<|(Qm)<|Qn<|Qb ?_
 refine Qz (fun kk E m => ∃ (k : Nat) (s : Nat), kk = 32 - k ∧ E = [(3, by8 s), (6, .agg (arr .u8 32 f)), (7, ii k)] ∧ m = [(0, some ⟨r1, arr .u8 32 f, 30⟩)] ∧ (k ≤ 32) ∧ (s < 256) ∧ (s = 0 ↔ ∀ j, j < k → f j = 0)) ⟨0, 0, rfl, rfl, rfl, by omega, by decide, ⟨fun _ j hj => absurd hj (Nat.not_lt_zero j), fun _ => rfl⟩⟩ ⟨rfl, rfl, rfl, trivial⟩ ⟨rfl, trivial⟩ ?_
 rintro kk E m ⟨k, s, rfl, rfl, rfl, hf0_0, hf0_1, hf0_2⟩
 refine (gt) ?_
 refine (Qcd) (fun hc0=>?_) fun hc0=>?_
 ·refine Qk<|Qs<|Qb<|Qs<|Qp<|(QX)<|(Qa)<|Qn<|Qp<|(Qm)<|(Qm) ?_
  refine z7M rfl rfl rfl  ?_
  refine (g3)<|(go) ?_
  refine Qzr ⟨k + 1, _, rfl, rfl, rfl, by omega, Nat.mod_lt _ (by decide), z8h hf0_1 (hf k (by omega)) hf0_2⟩ ⟨rfl, rfl, rfl, trivial⟩ ⟨rfl, trivial⟩ ?_
  omega
 ·have hk : k = 32 := by omega
  subst hk
  refine Qe<|(g5)<|(QN) ?_
  refine (Ab (zbV hf0_2))<|(gh) ?_
  exact ⟨_, rfl, yt⟩
theorem zcu (p : Nat × Nat) (h : Lt2 p) : Fp G 85 #[ptv p] (z7x (yC p.1 (p.2 ^ EE % PP))) := by
 refine Qf1 Tryz.func85 ?_
 refine (g4)<|(Qh 0) fun r1=>(QH 1) fun r2=>(gg)<|(QA 4 1)<|(Qls 0) ?_
 refine zi (zfh _) ?_
 refine (Ca (zlO _ h.2))<|(ge)<|(QH 2) fun r3=>(Qt 2)<|(g3)<|(g4)<|(QA 0 0)<|(Qls 0) ?_
 refine zi (zgi _) ?_
 refine (Qd 2) ?_
 refine zC rfl (Un 135) (Zk _ _ h.1 (Nat.mod_lt _ (by decide))) rfl rfl ?_
 refine zC rfl (Un 134) (zdj _ (Nat.mod_lt _ (by decide))) rfl rfl ?_
 refine (ge)<|(QH 3) fun r4=>(Qt 3)<|(g3)<|(g4)<|(Qd 3)<|(Qt 1)<|Qn<|Qr ?_
 exact ⟨_, rfl, ya 1⟩
theorem zav (f : NN) (hf : L8 32 f) : Fp G 84 #[.agg (arr .u8 32 f)] (.agg (arr .u8 32 (WM f))) := by
 refine Qf1 Tryz.func84 ?_
 refine (g4)<|(Qh 0) fun r1=>(QH 1) fun r2=>(gg)<|(Qj 0)<|(Q1 0) ?_
 refine z8S (q := 248) rfl rfl rfl  ?_
 refine (Qj 0)<|(Qu 0)<|(gg)<|(Qj 31)<|(Q1 0) ?_
 refine z8S (q := 127) rfl rfl rfl  ?_
 refine (Qj 31)<|(Qu 0)<|(gg)<|(Qj 31)<|(Q1 0) ?_
 refine z7M (q := 64) rfl rfl rfl  ?_
 refine (Qj 31)<|(Qu 0)<|(gg)<|(Qd 0)<|(Qt 1)<|Qn<|Qr ?_
 rw [← zhq hf rfl rfl rfl]
 exact ⟨_, rfl, ya 1⟩
theorem zcA (f : NN) (U : Nat) (hf : L8 32 f) (hU : U < PP) : Fp G 83 #[.agg (arr .u8 32 f), fe U] (rgv (vB U (vb f 32) 255)) := by
 refine Qf1 Tryz.func83 ?_
 refine (g4)<|(Qh 0) fun r1=>(Qh 1) fun r2=>(QH 2) fun r3=>(gg) ?_
 refine yG (arr .u64 4 (upd (fun _ => 0) 0 1)) (Ub 122 rfl) (Uu 122 rfl) (Uz 31 rfl) rfl rfl rfl ?_
 refine zi (z1e 1 (by decide)) ?_
 refine vA (Ub 122 rfl) (Uu 122 rfl) znr rfl ?_
 refine zi (zht) ?_
 refine wC _ (Ub 125 rfl) (Uu 125 rfl) (Uz 122 rfl) rfl (VT _ _) rfl ?_
 refine (Qd 1) ?_
 refine yG (arr .u64 4 (upd (fun _ => 0) 0 1)) (Ub 122 rfl) (Uu 122 rfl) (Uz 31 rfl) rfl rfl rfl ?_
 refine zi (z1e 1 (by decide)) ?_
 refine wC _ (Ub 125 rfl) (Uu 125 rfl) (Uz 122 rfl) rfl (VT _ _) rfl ?_
 refine wC _ (Ub 127 rfl) (Uu 127 rfl) (Uz 125 rfl) rfl (z90 _ _) rfl ?_
 refine (QH 3) fun r4=>(Qt 3)<|Qn<|Qs<|(gb)<|Qb ?_
 refine Qz (fun kk E m => ∃ (n : Nat), kk = 2 * n ∧ E = [(2, ptr r1), (3, ptr r2), (4, ptr r3), (5, ptr r4), (6, .int .i64 (((n : Nat) : Int) - 1))] ∧ m = [(0, some ⟨r1, arr .u8 32 f, 30⟩), (1, some ⟨r2, arr .u64 4 (wd U), 122⟩), (2, some ⟨r3, arr .u64 16 (fun _ => 0), 127⟩), (3, some ⟨r4, arr .u64 16 (rgf (vB U (vb f 32) (255 - n))), 127⟩)] ∧ (n ≤ 255)) ⟨255, rfl, rfl, rfl, by omega⟩ ⟨rfl, rfl, rfl, rfl, rfl, trivial⟩ ⟨rfl, rfl, rfl, rfl, trivial⟩ ?_
 rintro kk E m ⟨n, rfl, rfl, rfl, hf0_0⟩
 refine (gc)<|(QE)<|Qn ?_
 refine (Qcd) (fun hc0=>?_) fun hc0=>?_
 ·obtain ⟨i, rfl⟩ : ∃ i, n = i + 1 := ⟨n - 1, by omega⟩
  have hfi := hf (i / 8) (by omega)
  obtain ⟨b, hb⟩ : ∃ b, b = vb f 32 / 2 ^ i % 2 := ⟨_, rfl⟩
  have hb1 : b ≤ 1 := by omega
  obtain ⟨L, hL⟩ : ∃ L, L = swp b (vB U (vb f 32) (255 - (i + 1))) := ⟨_, rfl⟩
  have hLL : Lt2 L.1 ∧ Lt2 L.2 := by rw [hL]; exact zmi (z0a hU _ _)
  refine Qk<|Qs<|Qb<|(g5) ?_
  refine zi (congrArg (Value.int .i64) (show ((i + 1 : Nat) : Int) - 1 = ((i : Nat) : Int) by omega)) ?_
  refine (Q5 8)<|(gq)<|(Qm) ?_
  refine zi (congrArg (Value.int .i64) (show ((i + 1 : Nat) : Int) - 1 = ((i : Nat) : Int) by omega)) ?_
  refine (Q4 8) ?_
  refine zi5 rfl rfl rfl (by omega) ?_
  refine ZL (Uu 5) (Uu 31) rfl rfl rfl ?_
  refine (Q9 1) ?_
  refine (Au ((zer hf i (by omega)).trans hb.symm))<|(g3)<|(g4)<|(Qd 3)<|(Qm) ?_
  refine (Ca (z6T (vB U (vb f 32) (255 - (i + 1))) b hb1)) ?_
  refine zi (congrArg rgv hL.symm) ?_
  refine (Qt 3)<|Qn<|(gy)<|(QA 0 0)<|(Qls 3) ?_
  refine zi (zdx _) ?_
  refine (Ca (zfe L.1 hLL.1))<|(Qd 3)<|(Qd 1) ?_
  refine (Ca (zjT L U hLL hU)) ?_
  refine wC _ (Ub 127 rfl) (Uu 127 rfl) (Uz 125 rfl) rfl (z90 _ _) rfl ?_
  refine (Qt 3)<|Qn<|Qp<|(Qd 3)<|(Qm) ?_
  refine (Ca (z6T _ b hb1)) ?_
  refine zi (congrArg rgv (zfg hU (by omega) hb hL)) ?_
  refine (Qt 3)<|Qn<|Qp<|(Qm) ?_
  refine Wh (q := 1) rfl rfl rfl (by omega) (by omega) ?_
  refine (g3) ?_
  refine Qzr ⟨i, rfl, rfl, rfl, by omega⟩ ⟨rfl, rfl, rfl, rfl, congrArg (fun z => some (Value.int .i64 z)) (show ((i + 1 : Nat) : Int) - 1 - 1 = ((i : Nat) : Int) - 1 by omega), trivial⟩ ⟨rfl, rfl, rfl, rfl, trivial⟩ ?_
  omega
 ·have hn0 : n = 0 := by omega
  subst hn0
  refine Qe<|(g4)<|(Qd 3)<|(Qt 2)<|Qn<|Qr ?_
  exact ⟨_, rfl, ya 2⟩
theorem z16 (f g : NN) (hf : L8 32 f) (hg : L8 32 g) : Fp G 53 #[.agg (arr .u8 32 f), .agg (arr .u8 32 g)] (.tuple #[z7x (Yc (pnt g) (sec f)), .bool (!decide (Yc (pnt g) (sec f) = 0))]) := by
 refine Qf2 Tryz.func53 ?_
 refine (g4)<|(Qh 0) fun r1=>(Qh 1) fun r2=>(QH 2) fun r3=>(g3)<|(g4)<|(Qd 1) ?_
 refine (Ca (ziJ g hg))<|(QH 3) fun r4=>(Qt 3)<|Qn<|(gy)<|(Qd 0) ?_
 refine (Ca (zav f hf))<|(Qd 3) ?_
 refine (Ca (zcA (WM f) (pnt g) (z9G hf) (zdY g)))<|(QH 4) fun r5=>(Qt 4)<|(gg)<|(QA 0 0)<|(Qls 4) ?_
 refine zi (zdx _) ?_
 refine (Ca (zcu (vB (pnt g) (sec f) 255).1 (z0a (zdY g) _ _).1))<|(QH 5) fun r6=>(Qt 5)<|Qn<|Qs<|(Qq ⟨[r3], 1, [], none, none⟩) ?_
 refine zS (i := 5) (Uu 30) rfl (Uz 30) rfl rfl (zH _ _ _) rfl ⟨[2], rfl, rfl, trivial⟩ ?_
 refine zS (i := 5) (Uu 30) rfl (Uz 30) rfl rfl (zH _ _ _) rfl ⟨[2], rfl, rfl, trivial⟩ ?_
 refine (Ca (zbQ (bt (Yc (pnt g) (sec f))) (fun j _ => zfy _ j))) ?_
 refine zi (congrArg (fun z => Value.bool (!z)) (zjJ (vK _ _))) ?_
 refine z7 (i := 2) (Uz 30) rfl rfl (zH _ _ _) vS rfl (Yf _ _ _ _ _) (.inr (by simp)) ?_
 refine (gh) ?_
 exact ⟨_, _, rfl, ya 2, yt⟩
theorem xL (f : NN) (hf : L8 32 f) : Fp G 21 #[.agg (arr .u8 32 f)] (z7x (Yc 9 (sec f))) := by
 refine Qf1 Tryz.func21 ?_
 refine (g4)<|(Qh 0) fun r1=>(QH 1) fun r2=>(gg)<|(Qd 0) ?_
 refine yG (arr .u8 32 (upd (fun _ => 0) 0 9)) (Ub 30 rfl) (Uu 30 rfl) (Uz 5 rfl) rfl (by kernel_rfl) rfl ?_
 refine (Ca (z16 f (upd (fun _ => 0) 0 9) hf zjC)) ?_
 refine zi (congrArg (fun z => Value.tuple #[z7x (Yc z (sec f)), .bool (!decide (Yc z (sec f) = 0))]) zcX) ?_
 refine (ge)<|(QH 2) fun r3=>(Qt 2)<|(g3)<|(g4)<|(Qd 2)<|(Qt 1)<|Qn<|Qr ?_
 exact ⟨_, rfl, ya 1⟩
theorem z25 {G : Mem} (hO : DOR ∈ G) (y : SY) (hy : okY y) (v : Value) (l : LN) (hv : Sh G v l) (hb : By l) (hz : l.length ≤ 1000000) : Fp G 25 #[SVy y, v] (SVy (y6 y l)) :=
 (WV (G := G) y.1 y.2.1 y.2.2.1 y.2.2.2.1 y.2.2.2.2 v l (hv.mono fun _ h => List.mem_cons_of_mem _ h) hb hy.2.2.2 (by omega)).more (in1 hO)
theorem z4l {G : Mem} (hO : DOR ∈ G) (y : SY) (hy : okY y) (v : Value) (l : LN) (hv : Sh G v l) (hb : By l) (hz : l.length ≤ 1000000) : Fp G 194 #[SVy y, v] (SVy (Wm y l)) := by
 have h := (zfX (G := G) y.1 y.2.1 y.2.2.1 y.2.2.2.1 y.2.2.2.2 v l (hv.mono fun _ h => List.mem_cons_of_mem _ h) hb hy.2.2.1 (by omega)).more (in1 hO)
 unfold Wm
 generalize kB y.2.2.2.1 l = fb at h ⊢
 generalize kA y.2.2.2.1 l = fa at h ⊢
 exact h
theorem WN (hO : DOR ∈ G) (y : SY) (hy : okY y) (f : NN) (hf : B32 f) : Fp G 92 #[SVy y, .agg (arr .u8 32 f)] (SVy (y6 y (ky f))) := by
 obtain ⟨y2, hy2⟩ : ∃ y2, y2 = y6 y (ky f) := ⟨_, rfl⟩
 rw [← hy2]
 refine Qf1 Tryz.func92 ?_
 refine (g4)<|(Qh 0) fun r1=>(Qh 1) fun r2=>(QH 2) fun r3=>Qn<|(gy)<|(QD 0) ?_
 refine (Av (SVy y))<|(Qsa 0 32) ?_
 refine zD rfl rfl (Un 25) (zh zo (zY 1 rfl ⟨[], trivial⟩)) (z25 (G := G ++ [(⟨r2, arr .u8 32 f, 30⟩ : Blk)]) (List.mem_append_left _ hO) y hy _ (ky f) ((xh _ f _).mono (fun x h => List.mem_append_right _ h)) (ZE hf) (by simp)) rfl rfl ?_
 refine zi (congrArg SVy hy2.symm) ?_
 refine (QW 2)<|Qn<|Qr ?_
 exact ⟨_, rfl, yb 2⟩
theorem z5S (hO : DOR ∈ G) (b : LN) (l : Bool) (vp v0 v1 vt : Value) (fi : Bool) (tn : Int) (dd : Bool) (y : SY) (r : RS) (ow : NN) (vk : Value) (us : Int) (f : NN) (ps : List (NN)) (hk : Shows G 32 vk ps.length (psC ps)) (h1 : xn vp v0 v1 vt vk) (hy : okY y) (hf : B32 f) : Fp G 144 #[.agg (shC b l vp v0 v1 vt fi tn dd y ow r vk us), .agg (arr .u8 32 f)] (.agg (shC b l vp v0 v1 vt fi tn dd (zX (npk ps) y f) ow r vk us)) := by
 obtain ⟨z, hz⟩ : ∃ z, z = zX (npk ps) y f := ⟨_, rfl⟩
 obtain ⟨y2, hy2⟩ : ∃ y2, y2 = y6 y (ky f) := ⟨_, rfl⟩
 have hyb : okY y2 := by rw [hy2]; exact wI hy _
 rw [← hz]
 refine Qf1 Tryz.func144 ?_
 refine (g4)<|(Qh 0) fun r1=>(Qh 1) fun r2=>(QH 2) fun r3=>(gg)<|(Qf 9)<|(QlK 0 9 5) ?_
 refine (Av (SVy y))<|(Qd 1) ?_
 refine (Ca (WN hO y hy f hf)) ?_
 refine zi (congrArg SVy hy2.symm) ?_
 refine (Qf 9)<|(QtK 0 9 5) ?_
 refine xQ (c' := shC b l vp v0 v1 vt fi tn dd y2 ow r vk us) rfl ?_
 refine Qn<|(gu)<|(Qf 238)<|(QV 21 0)<|(QC hk)<|(QG)<|Qn ?_
 refine (Qcd) (fun hc0=>?_) fun hc0=>?_
 ·have hz3 : z = Wm y2 (ky f) := by rw [hz, zX, if_pos (by show npk ps = true; exact decide_eq_true (by omega)), ← hy2]
  refine (Qg)<|(Qf 9)<|(QlK 0 9 5) ?_
  refine (Av (SVy y2))<|(Qsa 0 32) ?_
  refine zD rfl rfl (Un 194) (zh zo (zY 1 rfl ⟨[], trivial⟩)) (z4l (G := G ++ [(⟨r2, arr .u8 32 f, 30⟩ : Blk)]) (List.mem_append_left _ hO) y2 hyb _ (ky f) ((xh _ f _).mono (fun x h => List.mem_append_right _ h)) (ZE hf) (by simp)) rfl rfl ?_
  refine zi (show _ = SVy z by rw [hz3]) ?_
  refine (Qf 9)<|(QtK 0 9 5) ?_
  refine xQ (c' := shC b l vp v0 v1 vt fi tn dd z ow r vk us) rfl ?_
  refine Qn<|(gf) ?_
  refine z7 (i := 2) (Uz 37) rfl rfl (z3 _ _) (za ⟨fun _ => rfl, fun _ => rfl, fun _ => h1.1, fun _ => h1.2.1, fun _ => h1.2.2.1, fun _ => h1.2.2.2.1, fun _ => rfl, fun _ => rfl, fun _ => rfl, fun _ => rfl, fun _ => rfl, fun _ => rfl, fun _ => rfl, fun _ => rfl, fun _ => rfl, fun _ => rfl, fun _ => rfl, fun _ => rfl, fun _ => rfl, fun _ => rfl, fun _ => rfl, fun _ => h1.2.2.2.2, fun _ => rfl, trivial⟩) rfl z8 (.inl rfl) ?_
  refine Qn<|Qr ?_
  exact ⟨_, rfl, yb 2⟩
 ·obtain rfl : z = y2 := by rw [hz, zX, if_neg (by show ¬ npk ps = true; rw [npk, decide_eq_false (by omega)]; decide), ← hy2]
  refine Qk<|(gf) ?_
  refine z7 (i := 2) (Uz 37) rfl rfl (z3 _ _) (za ⟨fun _ => rfl, fun _ => rfl, fun _ => h1.1, fun _ => h1.2.1, fun _ => h1.2.2.1, fun _ => h1.2.2.2.1, fun _ => rfl, fun _ => rfl, fun _ => rfl, fun _ => rfl, fun _ => rfl, fun _ => rfl, fun _ => rfl, fun _ => rfl, fun _ => rfl, fun _ => rfl, fun _ => rfl, fun _ => rfl, fun _ => rfl, fun _ => rfl, fun _ => rfl, fun _ => h1.2.2.2.2, fun _ => rfl, trivial⟩) rfl z8 (.inl rfl) ?_
  refine Qn<|Qr ?_
  exact ⟨_, rfl, yb 2⟩
theorem z6r (hO : DOR ∈ G) (b : LN) (l : Bool) (vp v0 v1 vt : Value) (fi : Bool) (tn : Int) (dd : Bool) (y : SY) (r : RS) (ow : NN) (vk : Value) (us : Int) (f : NN) (ps : List (NN)) (hk : Shows G 32 vk ps.length (psC ps)) (h1 : xn vp v0 v1 vt vk) (hy : okY y) (hf : B32 f) : Fp G 93 #[.agg (shC b l vp v0 v1 vt fi tn dd y ow r vk us), .agg (arr .u8 32 f)] (.tuple #[.agg (shC b l vp v0 v1 vt fi tn dd (zX (npk ps) y (zN f)) ow (f, true, r.2.2) vk us), .agg (arr .u8 32 (zN f))]) := by
 obtain ⟨z, hz⟩ : ∃ z, z = zX (npk ps) y (zN f) := ⟨_, rfl⟩
 rw [← hz]
 refine Qf2 Tryz.func93 ?_
 refine (g4)<|(Qh 0) fun r1=>(Qh 1) fun r2=>(QH 2) fun r3=>(QH 3) fun r4=>(gg)<|(Qd 1)<|(Qf 139)<|(QtC 0 15)<|(Qf 171)<|(QtV 0 16) ?_
 refine xQ (c' := shC b l vp v0 v1 vt fi tn dd y ow (f, true, r.2.2) vk us) rfl ?_
 refine (gg)<|(Qd 1) ?_
 refine (Ca (xL f hf)) ?_
 refine (Av (Value.agg (arr .u8 32 (zN f))))<|(QH 4) fun r5=>(Qt 4)<|Qn<|Qs<|(Qq ⟨[r3, r4], 1, [], none, none⟩) ?_
 refine zS (i := 0) (Uu 37) rfl (Uz 37) rfl rfl (z3 _ _) rfl ⟨[2, 3], rfl, rfl, rfl, rfl, trivial⟩ ?_
 refine zS (i := 4) (Uu 30) rfl (Uz 30) rfl rfl (zH _ _ _) rfl ⟨[2, 3], rfl, rfl, rfl, rfl, trivial⟩ ?_
 refine (Ca (z5S hO b l vp v0 v1 vt fi tn dd y (f, true, r.2.2) ow vk us (zN f) ps hk h1 hy (wo f))) ?_
 refine zi (show _ = Value.agg (shC b l vp v0 v1 vt fi tn dd z ow (f, true, r.2.2) vk us) by rw [hz]) ?_
 refine zS (i := 4) (Uu 30) rfl (Uz 30) rfl rfl (zH _ _ _) rfl ⟨[2, 3], rfl, rfl, rfl, rfl, trivial⟩ ?_
 refine z7 (i := 2) (Uz 37) rfl rfl (z3 _ _) (za ⟨fun _ => rfl, fun _ => rfl, fun _ => h1.1, fun _ => h1.2.1, fun _ => h1.2.2.1, fun _ => h1.2.2.2.1, fun _ => rfl, fun _ => rfl, fun _ => rfl, fun _ => rfl, fun _ => rfl, fun _ => rfl, fun _ => rfl, fun _ => rfl, fun _ => rfl, fun _ => rfl, fun _ => rfl, fun _ => rfl, fun _ => rfl, fun _ => rfl, fun _ => rfl, fun _ => h1.2.2.2.2, fun _ => rfl, trivial⟩) rfl z8 (.inr (by simp)) ?_
 refine z7 (i := 3) (Uz 30) rfl rfl (zH _ _ _) vS rfl (Yf _ _ _ _ _) (.inr (by simp)) ?_
 refine Qn<|Qr ?_
 exact ⟨_, _, rfl, yb 2, ya 3⟩
theorem z2R (hO : DOR ∈ G) (b : LN) (l : Bool) (vp v0 v1 vt : Value) (fi : Bool) (tn : Int) (dd : Bool) (y : SY) (r : RS) (ow : NN) (vk : Value) (us : Int) (f : NN) (ps : List (NN)) (hk : Shows G 32 vk ps.length (psC ps)) (h1 : xn vp v0 v1 vt vk) (hy : okY y) (hf : B32 f) : Fp G 94 #[.agg (shC b l vp v0 v1 vt fi tn dd y ow r vk us), .agg (arr .u8 32 f)] (.agg (shC b l vp v0 v1 vt fi tn dd (zX (npk ps) y f) ow (r.1, r.2.1, r.2.2.1, r.2.2.2.1, f, true) vk us)) := by
 obtain ⟨z, hz⟩ : ∃ z, z = zX (npk ps) y f := ⟨_, rfl⟩
 rw [← hz]
 refine Qf1 Tryz.func94 ?_
 refine (g4)<|(Qh 0) fun r1=>(Qh 1) fun r2=>(QH 2) fun r3=>(gg)<|(Qd 1)<|(Qf 205)<|(QtC 0 19)<|(Qf 237)<|(QtV 0 20) ?_
 refine xQ (c' := shC b l vp v0 v1 vt fi tn dd y ow (r.1, r.2.1, r.2.2.1, r.2.2.2.1, f, true) vk us) rfl ?_
 refine Qn<|(gf)<|(Qd 1) ?_
 refine (Ca (z5S hO b l vp v0 v1 vt fi tn dd y (r.1, r.2.1, r.2.2.1, r.2.2.2.1, f, true) ow vk us f ps hk h1 hy hf)) ?_
 refine zi (show _ = Value.agg (shC b l vp v0 v1 vt fi tn dd z ow (r.1, r.2.1, r.2.2.1, r.2.2.2.1, f, true) vk us) by rw [hz]) ?_
 refine z7 (i := 2) (Uz 37) rfl rfl (z3 _ _) (za ⟨fun _ => rfl, fun _ => rfl, fun _ => h1.1, fun _ => h1.2.1, fun _ => h1.2.2.1, fun _ => h1.2.2.2.1, fun _ => rfl, fun _ => rfl, fun _ => rfl, fun _ => rfl, fun _ => rfl, fun _ => rfl, fun _ => rfl, fun _ => rfl, fun _ => rfl, fun _ => rfl, fun _ => rfl, fun _ => rfl, fun _ => rfl, fun _ => rfl, fun _ => rfl, fun _ => h1.2.2.2.2, fun _ => rfl, trivial⟩) rfl z8 (.inl rfl) ?_
 refine Qn<|Qr ?_
 exact ⟨_, rfl, yb 2⟩
theorem z8f (hO : DOR ∈ G) (b : LN) (l : Bool) (vp v0 v1 vt : Value) (fi : Bool) (tn : Int) (dd : Bool) (y : SY) (r : RS) (ow : NN) (vk : Value) (us : Int) (ps : List (NN)) (hk : Shows G 32 vk ps.length (psC ps)) (h1 : xn vp v0 v1 vt vk) (hy : okY y) (hr : okR r) (ho : B32 ow) (ea : NN) (he : B32 ea) : Fp G 57 #[.agg (shC b l vp v0 v1 vt fi tn dd y ow r vk us), ii 1, .bool true, .agg (arr .u8 32 ea)] (.agg (shC b l vp v0 v1 vt fi tn dd (zX (npk ps) y (zN ea)) ow (ea, true, r.2.2) vk us)) := by
 have _u1 := ho
 have _u2 := hr
 have _u3 := he
 have _u4 := hy
 obtain ⟨z, hz⟩ : ∃ z, z = zX (npk ps) y (zN ea) := ⟨_, rfl⟩
 rw [← hz]
 refine Qf1 Tryz.func57 ?_
 refine (g4)<|(Qh 0) fun r1=>(Qh 1) fun r2=>(QH 2) fun r3=>Qn<|Qs<|Qb<|(g5)<|(Qc) ?_
 refine (Ab (decide_eq_false (by decide)))<|(Qm)<|(Qo)<|(QF)<|(g3)<|(Qcf)<|(g5)<|(Qc) ?_
 refine (Ab (decide_eq_false (by decide)))<|(g3)<|(Qcf)<|(g5)<|(g3)<|(Qct)<|Qp<|(QD 0)<|(Qd 1) ?_
 refine (Ca (z6r hO b l vp v0 v1 vt fi tn dd y r ow vk us ea ps hk h1 hy he)) ?_
 refine zi (show _ = Value.tuple #[.agg (shC b l vp v0 v1 vt fi tn dd z ow (ea, true, r.2.2) vk us), .agg (arr .u8 32 (zN ea))] by rw [hz]) ?_
 refine (ge) ?_
 refine z7 (i := 0) (Uz 37) rfl rfl (z3 _ _) (za ⟨fun _ => rfl, fun _ => rfl, fun _ => h1.1, fun _ => h1.2.1, fun _ => h1.2.2.1, fun _ => h1.2.2.2.1, fun _ => rfl, fun _ => rfl, fun _ => rfl, fun _ => rfl, fun _ => rfl, fun _ => rfl, fun _ => rfl, fun _ => rfl, fun _ => rfl, fun _ => rfl, fun _ => rfl, fun _ => rfl, fun _ => rfl, fun _ => rfl, fun _ => rfl, fun _ => h1.2.2.2.2, fun _ => rfl, trivial⟩) rfl z8 (.inl rfl) ?_
 refine Qn<|(gf) ?_
 refine z7 (i := 2) (Uz 37) rfl rfl (z3 _ _) (za ⟨fun _ => rfl, fun _ => rfl, fun _ => h1.1, fun _ => h1.2.1, fun _ => h1.2.2.1, fun _ => h1.2.2.2.1, fun _ => rfl, fun _ => rfl, fun _ => rfl, fun _ => rfl, fun _ => rfl, fun _ => rfl, fun _ => rfl, fun _ => rfl, fun _ => rfl, fun _ => rfl, fun _ => rfl, fun _ => rfl, fun _ => rfl, fun _ => rfl, fun _ => rfl, fun _ => h1.2.2.2.2, fun _ => rfl, trivial⟩) rfl z8 (.inl rfl) ?_
 refine Qn<|Qr ?_
 exact ⟨_, rfl, yb 2⟩
theorem z7T (hO : DOR ∈ G) (b : LN) (l : Bool) (vp v0 v1 vt : Value) (fi : Bool) (tn : Int) (dd : Bool) (y : SY) (r : RS) (ow : NN) (vk : Value) (us : Int) (ps : List (NN)) (hk : Shows G 32 vk ps.length (psC ps)) (h1 : xn vp v0 v1 vt vk) (hy : okY y) (hr : okR r) (ho : B32 ow) (ea : NN) (he : B32 ea) : Fp G 57 #[.agg (shC b l vp v0 v1 vt fi tn dd y ow r vk us), ii 2, .bool true, .agg (arr .u8 32 ea)] (.agg (shC b l vp v0 v1 vt fi tn dd (y6 y (ky (zN ow))) ow r vk us)) := by
 have _u1 := ho
 have _u2 := hr
 have _u3 := he
 have _u4 := hy
 have _u5 := hk
 obtain ⟨y2, hy2⟩ : ∃ y2, y2 = y6 y (ky (zN ow)) := ⟨_, rfl⟩
 rw [← hy2]
 refine Qf1 Tryz.func57 ?_
 refine (g4)<|(Qh 0) fun r1=>(Qh 1) fun r2=>(QH 2) fun r3=>Qn<|Qs<|Qb<|(g5)<|(Qc) ?_
 refine (Ab (decide_eq_true (by decide)))<|(g8)<|(Qm)<|(QT)<|(g3)<|(Qct)<|(Qg)<|(Qf 9)<|(QlK 0 9 5) ?_
 refine (Av (SVy y))<|(Qf 107)<|(Qv 14 0) ?_
 refine (Ca (xL ow ho)) ?_
 refine (Av (Value.agg (arr .u8 32 (zN ow)))) ?_
 refine (Ca (WN hO y hy (zN ow) (wo ow))) ?_
 refine zi (congrArg SVy hy2.symm) ?_
 refine (Qf 9)<|(QtK 0 9 5) ?_
 refine xQ (c' := shC b l vp v0 v1 vt fi tn dd y2 ow r vk us) rfl ?_
 refine Qn<|(gf) ?_
 refine z7 (i := 2) (Uz 37) rfl rfl (z3 _ _) (za ⟨fun _ => rfl, fun _ => rfl, fun _ => h1.1, fun _ => h1.2.1, fun _ => h1.2.2.1, fun _ => h1.2.2.2.1, fun _ => rfl, fun _ => rfl, fun _ => rfl, fun _ => rfl, fun _ => rfl, fun _ => rfl, fun _ => rfl, fun _ => rfl, fun _ => rfl, fun _ => rfl, fun _ => rfl, fun _ => rfl, fun _ => rfl, fun _ => rfl, fun _ => rfl, fun _ => h1.2.2.2.2, fun _ => rfl, trivial⟩) rfl z8 (.inl rfl) ?_
 refine Qn<|Qr ?_
 exact ⟨_, rfl, yb 2⟩
theorem z7J (hO : DOR ∈ G) (b : LN) (l : Bool) (vp v0 v1 vt : Value) (fi : Bool) (tn : Int) (dd : Bool) (y : SY) (r : RS) (ow : NN) (vk : Value) (us : Int) (ps : List (NN)) (hk : Shows G 32 vk ps.length (psC ps)) (h1 : xn vp v0 v1 vt vk) (hy : okY y) (hr : okR r) (ho : B32 ow) (ea : NN) (he : B32 ea) : Fp G 57 #[.agg (shC b l vp v0 v1 vt fi tn dd y ow r vk us), ii 1, .bool false, .agg (arr .u8 32 ea)] (.agg (shC b l vp v0 v1 vt fi tn dd (zX (npk ps) y ea) ow (r.1, r.2.1, r.2.2.1, r.2.2.2.1, ea, true) vk us)) := by
 have _u1 := ho
 have _u2 := hr
 have _u3 := he
 have _u4 := hy
 obtain ⟨z, hz⟩ : ∃ z, z = zX (npk ps) y ea := ⟨_, rfl⟩
 rw [← hz]
 refine Qf1 Tryz.func57 ?_
 refine (g4)<|(Qh 0) fun r1=>(Qh 1) fun r2=>(QH 2) fun r3=>Qn<|Qs<|Qb<|(g5)<|(Qc) ?_
 refine (Ab (decide_eq_false (by decide)))<|(Qm)<|(Qo)<|(QF)<|(g3)<|(Qcf)<|(g5)<|(Qc) ?_
 refine (Ab (decide_eq_false (by decide)))<|(g3)<|(Qcf)<|(g5)<|(g3)<|(Qcf)<|Qp<|(QD 0)<|(Qd 1) ?_
 refine (Ca (z2R hO b l vp v0 v1 vt fi tn dd y r ow vk us ea ps hk h1 hy he)) ?_
 refine zi (show _ = .agg (shC b l vp v0 v1 vt fi tn dd z ow (r.1, r.2.1, r.2.2.1, r.2.2.2.1, ea, true) vk us) by rw [hz]) ?_
 refine z7 (i := 0) (Uz 37) rfl rfl (z3 _ _) (za ⟨fun _ => rfl, fun _ => rfl, fun _ => h1.1, fun _ => h1.2.1, fun _ => h1.2.2.1, fun _ => h1.2.2.2.1, fun _ => rfl, fun _ => rfl, fun _ => rfl, fun _ => rfl, fun _ => rfl, fun _ => rfl, fun _ => rfl, fun _ => rfl, fun _ => rfl, fun _ => rfl, fun _ => rfl, fun _ => rfl, fun _ => rfl, fun _ => rfl, fun _ => rfl, fun _ => h1.2.2.2.2, fun _ => rfl, trivial⟩) rfl z8 (.inl rfl) ?_
 refine Qn<|(gf) ?_
 refine z7 (i := 2) (Uz 37) rfl rfl (z3 _ _) (za ⟨fun _ => rfl, fun _ => rfl, fun _ => h1.1, fun _ => h1.2.1, fun _ => h1.2.2.1, fun _ => h1.2.2.2.1, fun _ => rfl, fun _ => rfl, fun _ => rfl, fun _ => rfl, fun _ => rfl, fun _ => rfl, fun _ => rfl, fun _ => rfl, fun _ => rfl, fun _ => rfl, fun _ => rfl, fun _ => rfl, fun _ => rfl, fun _ => rfl, fun _ => rfl, fun _ => h1.2.2.2.2, fun _ => rfl, trivial⟩) rfl z8 (.inl rfl) ?_
 refine Qn<|Qr ?_
 exact ⟨_, rfl, yb 2⟩
theorem z76 (hO : DOR ∈ G) (b : LN) (l : Bool) (vp v0 v1 vt : Value) (fi : Bool) (tn : Int) (dd : Bool) (y : SY) (r : RS) (ow : NN) (vk : Value) (us : Int) (ps : List (NN)) (hk : Shows G 32 vk ps.length (psC ps)) (h1 : xn vp v0 v1 vt vk) (hy : okY y) (hr : okR r) (ho : B32 ow) (ea : NN) (he : B32 ea) : Fp G 57 #[.agg (shC b l vp v0 v1 vt fi tn dd y ow r vk us), ii 2, .bool false, .agg (arr .u8 32 ea)] (.agg (shC b l vp v0 v1 vt fi tn dd (y6 y (ky r.2.2.1)) ow r vk us)) := by
 have _u1 := ho
 have _u2 := hr
 have _u3 := he
 have _u4 := hy
 have _u5 := hk
 obtain ⟨y2, hy2⟩ : ∃ y2, y2 = y6 y (ky r.2.2.1) := ⟨_, rfl⟩
 rw [← hy2]
 refine Qf1 Tryz.func57 ?_
 refine (g4)<|(Qh 0) fun r1=>(Qh 1) fun r2=>(QH 2) fun r3=>Qn<|Qs<|Qb<|(g5)<|(Qc) ?_
 refine (Ab (decide_eq_true (by decide)))<|(g8)<|(Qm)<|(QT)<|(g3)<|(Qcf)<|(g5)<|(Qc) ?_
 refine (Ab (decide_eq_true (by decide)))<|(g3)<|(Qct)<|Qp<|(Qf 9)<|(QlK 0 9 5) ?_
 refine (Av (SVy y))<|(Qf 172)<|(Qv 17 0) ?_
 refine (Ca (WN hO y hy r.2.2.1 hr.2.1)) ?_
 refine zi (congrArg SVy hy2.symm) ?_
 refine (Qf 9)<|(QtK 0 9 5) ?_
 refine xQ (c' := shC b l vp v0 v1 vt fi tn dd y2 ow r vk us) rfl ?_
 refine Qn<|(gf) ?_
 refine z7 (i := 2) (Uz 37) rfl rfl (z3 _ _) (za ⟨fun _ => rfl, fun _ => rfl, fun _ => h1.1, fun _ => h1.2.1, fun _ => h1.2.2.1, fun _ => h1.2.2.2.1, fun _ => rfl, fun _ => rfl, fun _ => rfl, fun _ => rfl, fun _ => rfl, fun _ => rfl, fun _ => rfl, fun _ => rfl, fun _ => rfl, fun _ => rfl, fun _ => rfl, fun _ => rfl, fun _ => rfl, fun _ => rfl, fun _ => rfl, fun _ => h1.2.2.2.2, fun _ => rfl, trivial⟩) rfl z8 (.inl rfl) ?_
 refine Qn<|Qr ?_
 exact ⟨_, rfl, yb 2⟩
theorem z7e {G : Mem} (hO : DOR ∈ G) (b : LN) (l : Bool) (vp v0 v1 vt : Value) (fi : Bool) (tn : Int) (dd : Bool) (y : SY) (r : RS) (ow : NN) (vk : Value) (us : Int) (ps : List (NN)) (hk : Shows G 32 vk ps.length (psC ps)) (h1 : xn vp v0 v1 vt vk) (hy : okY y) (hr : okR r) (ho : B32 ow) (mine : Bool) (ea : NN) (he : B32 ea) (t : Nat) (ht : t = 1 ∨ t = 2) : Fp G 57 #[.agg (shC b l vp v0 v1 vt fi tn dd y ow r vk us), ii t, .bool mine, .agg (arr .u8 32 ea)] (.agg (shC b l vp v0 v1 vt fi tn dd (VQ mine ow ea (npk ps) t (y, r)).1 ow (VQ mine ow ea (npk ps) t (y, r)).2 vk us)) := by
 have e : ∀ (m : Bool) (u : Nat), (u = 1 ∨ u = 2) → True := fun _ _ _ => trivial
 rcases ht with rfl | rfl <;> cases mine
 ·exact z7J hO b l vp v0 v1 vt fi tn dd y r ow vk us ps hk h1 hy hr ho ea he
 ·exact z8f hO b l vp v0 v1 vt fi tn dd y r ow vk us ps hk h1 hy hr ho ea he
 ·exact z76 hO b l vp v0 v1 vt fi tn dd y r ow vk us ps hk h1 hy hr ho ea he
 ·exact z7T hO b l vp v0 v1 vt fi tn dd y r ow vk us ps hk h1 hy hr ho ea he
set_option maxRecDepth 20000 in
theorem z0T (hO : DOR ∈ G) (b : LN) (l : Bool) (vp v0 v1 vt : Value) (fi : Bool) (tn : Int) (dd : Bool) (y : SY) (r : RS) (ow : NN) (vk : Value) (us : Int) (ps : List (NN)) (hk : Shows G 32 vk ps.length (psC ps)) (h1 : xn vp v0 v1 vt vk) (hy : okY y) (hr : okR r) (ho : B32 ow) (ea : NN) (he : B32 ea) (q0 q1 : LN) (hv0 : Shows G 1 v0 q0.length ((ci q0).map iv)) (hv1 : Shows G 1 v1 q1.length ((ci q1).map iv)) (ht0 : ∀ x ∈ q0, x = 1 ∨ x = 2) (ht1 : ∀ x ∈ q1, x = 1 ∨ x = 2) (hz9 : q0.length ≤ 1000 ∧ q1.length ≤ 1000) (hkn : ∀ a : Nat, a < 2 → ∀ x ∈ qq q0 q1 a, x = 2 → (fi == decide ((a : Int) = 0)) = false → r.2.2.2.1 = true) (z : SY × RS) (hz : wW fi ow ea (npk ps) q0 q1 (y, r) = z) : Fp G 27 #[.agg (shC b l vp v0 v1 vt fi tn dd y ow r vk us), .agg (arr .u8 32 ea)] (.tuple #[.agg (shC b l vp v0 v1 vt fi tn dd z.1 ow z.2 vk us), ii 0]) := by
 have hvq := z34 hv0 hv1
 obtain ⟨s0, hs0⟩ : ∃ s, s = (y, r) := ⟨_, rfl⟩
 have hq9 : ∀ a : Nat, (qq q0 q1 a).length ≤ 1000 := fun a => by unfold qq; split; exact hz9.1; exact hz9.2
 have htq : ∀ a : Nat, ∀ x ∈ qq q0 q1 a, x = 1 ∨ x = 2 := fun a => by unfold qq; split; exact ht0; exact ht1
 have hstep : ∀ a : Nat, a < 2 → ZG (fi == decide ((a : Int) = 0)) ow ea (npk ps) (qq q0 q1 a) (if a = 0 then s0 else if a = 1 then ZG fi ow ea (npk ps) q0 s0 else ZG (!fi) ow ea (npk ps) q1 (ZG fi ow ea (npk ps) q0 s0)) = (if a + 1 = 0 then s0 else if a + 1 = 1 then ZG fi ow ea (npk ps) q0 s0 else ZG (!fi) ow ea (npk ps) q1 (ZG fi ow ea (npk ps) q0 s0)) := fun a ha => by rcases (by omega : a = 0 ∨ a = 1) with rfl | rfl <;> cases fi <;> rfl
 refine Qf2 Tryz.func27 ?_
 refine (g4)<|(Qh 0) fun r1=>(Qh 1) fun r2=>(QH 2) fun r3=>(g3)<|(gu)<|(Qf 0)<|(Qf 3) ?_
 refine z5j (i := 0) (Uu 26) rfl (Uz 26) rfl rfl (by decide) rfl ⟨[], trivial⟩ ?_
 refine zi (show _ = Value.agg (zO 2 (fun j => vq v0 v1 j)) from congrArg Value.agg (yq fun j hj => by have h9 : j = 0 ∨ j = 1 := (by omega); rcases h9 with rfl | rfl <;> rfl)) ?_
 refine (Qm)<|Qn<|Qb ?_
 refine QzK [(2, _), (3, _), (4, _), (13, _)] [(1, _), (2, _)] (fun kk E m => ∃ (a : Nat) (y1 : SY) (r1v : RS), kk = 2 - a ∧ E = [(14, ii a)] ∧ m = [(0, some ⟨r1, shC b l vp v0 v1 vt fi tn dd y1 ow r1v vk us, 37⟩)] ∧ (a ≤ 2) ∧ (((y1, r1v) : SY × RS) = (if a = 0 then s0 else if a = 1 then ZG fi ow ea (npk ps) q0 s0 else ZG (!fi) ow ea (npk ps) q1 (ZG fi ow ea (npk ps) q0 s0))) ∧ (okY y1 ∧ okR r1v) ∧ (r1v.2.2.2.1 = r.2.2.2.1)) ⟨0, y, r, rfl, rfl, rfl, by omega, (by rw [hs0]; rfl), ⟨hy, hr⟩, rfl⟩ ⟨rfl, rfl, rfl, rfl, rfl, trivial⟩ ⟨rfl, rfl, rfl, trivial⟩ ?_
 rintro kk E m ⟨a, y1, r1v, rfl, rfl, rfl, hf0_0, hf0_1, hf0_2, hf0_3⟩
 simp only [zB, zA]
 refine (gt) ?_
 refine (Qcd) (fun hc0=>?_) fun hc0=>?_
 ·have hc0 : a < 2 := by omega
  refine Qk<|Qs<|Qb<|(g5) ?_
  refine z3U (Uu 26) (Uu 25) rfl (Uz 25) rfl rfl (by omega) rfl ?_
  refine (g7)<|(g4)<|(Qf 6)<|(QV 6 0)<|(Qm)<|(Qc) ?_
  refine zhh (Uu 4) rfl rfl rfl ?_
  refine (gj)<|(QC (hvq a (by omega)))<|(Qm)<|Qn<|Qb ?_
  refine QzK [(2, _), (3, _), (4, _), (8, _), (13, _), (14, _), (23, _), (24, _)] [(1, _), (2, _)] (fun kk E m => ∃ (i : Nat) (y2 : SY) (r2v : RS), kk = (qq q0 q1 a).length - i ∧ E = [(25, ii i)] ∧ m = [(0, some ⟨r1, shC b l vp v0 v1 vt fi tn dd y2 ow r2v vk us, 37⟩)] ∧ (i ≤ (qq q0 q1 a).length) ∧ (((y2, r2v) : SY × RS) = ZG (fi == decide ((a : Int) = 0)) ow ea (npk ps) ((qq q0 q1 a).take i) (y1, r1v)) ∧ (okY y2 ∧ okR r2v) ∧ (r2v.2.2.2.1 = r.2.2.2.1)) ⟨0, y1, r1v, rfl, rfl, rfl, by omega, (by rw [List.take_zero]; rfl), hf0_2, hf0_3⟩ ⟨rfl, rfl, rfl, rfl, rfl, rfl, rfl, rfl, rfl, trivial⟩ ⟨rfl, rfl, rfl, trivial⟩ ?_
  rintro kk E m ⟨i, y2, r2v, rfl, rfl, rfl, hf1_0, hf1_1, hf1_2, hf1_3⟩
  simp only [zB, zA]
  refine (gt) ?_
  refine (Qcd) (fun hc1=>?_) fun hc1=>?_
  ·have hc1 : i < (qq q0 q1 a).length := by omega
   refine Qk<|Qs<|Qb<|(g4) ?_
   refine xf (hvq a (by omega)) (Uu 25) (Uz 3) rfl rfl (by omega) rfl ?_
   refine (QS) ?_
   refine yc (hvq a (by omega)) zo (Uu 3) rfl rfl (z0x (by omega)) rfl ?_
   refine z0d fun x hx => ?_
   refine (g3) ?_
   have hqa9 := hq9 a
   have hx9 := htq a ((qq q0 q1 a).getD i 0) (by rw [List.getD_eq_getElem?_getD, List.getElem?_eq_getElem (by omega)]; exact List.getElem_mem _)
   rw [← hx] at hx9
   obtain ⟨sn, hsn⟩ : ∃ z, z = VQ (fi == decide ((a : Int) = 0)) ow ea (npk ps) x (y2, r2v) := ⟨_, rfl⟩
   refine (gu) ?_
   refine zW [(2, _), (3, _), (4, _), (8, _), (10, _), (13, _), (14, _), (23, _), (24, _), (25, _), (26, _), (27, _), (28, _)] [(39, .bool (decide ((x : Int) = 2) && (!(fi == decide ((a : Int) = 0)) && !r2v.2.2.2.1)))] [(0, some _), (1, some _), (2, some _)] ⟨rfl, rfl, rfl, rfl, rfl, rfl, rfl, rfl, rfl, rfl, rfl, rfl, rfl, trivial⟩ ⟨rfl, rfl, rfl, trivial⟩ ?_ ?_
   ·skip
    refine (Qm)<|(Qc)<|(Qm) ?_
    refine zM (b := decide ((x : Int) = 2)) (fun hb0 => ?_) (fun hb0 => ?_)
    ·skip
     refine (Qy)<|(g8)<|(Q0)<|(QT)<|(Qm) ?_
     refine zM (b := (!(fi == decide ((a : Int) = 0)))) (fun hb1 => ?_) (fun hb1 => ?_)
     ·skip
      refine (Qy)<|(Qf 204)<|(Qy)<|(QV 18 0)<|(Qy)<|(Q0)<|(QT)<|Qn ?_
      exact ⟨⟨rfl, rfl, rfl, rfl, rfl, rfl, rfl, rfl, rfl, rfl, rfl, rfl, rfl, trivial⟩, ⟨zf (by rw [hb0, hb1] <;> rfl), trivial⟩, ⟨rfl, rfl, rfl, trivial⟩⟩
     ·skip
      refine (gz)<|(QF)<|Qn ?_
      exact ⟨⟨rfl, rfl, rfl, rfl, rfl, rfl, rfl, rfl, rfl, rfl, rfl, rfl, rfl, trivial⟩, ⟨zf (by rw [hb0, hb1] <;> rfl), trivial⟩, ⟨rfl, rfl, rfl, trivial⟩⟩
    ·skip
     refine (g6)<|(QF)<|(Qm)<|(gz)<|(QF)<|Qn ?_
     exact ⟨⟨rfl, rfl, rfl, rfl, rfl, rfl, rfl, rfl, rfl, rfl, rfl, rfl, rfl, trivial⟩, ⟨zf (by rw [hb0] <;> rfl), trivial⟩, ⟨rfl, rfl, rfl, trivial⟩⟩
   ·simp only [zB]
    refine ze rfl ?_ ?_
    ·intro hc2
     have hc9 := zme hc2
     have hb9 : r.2.2.2.1 = true := hkn a (by omega) x (by rw [hx, List.getD_eq_getElem?_getD, List.getElem?_eq_getElem (by omega)]; exact List.getElem_mem _) (by omega) hc9.2.1
     rw [hf1_3, hb9] at hc9
     exact absurd hc9.2.2 (by decide)
    ·intro hc2
     refine Qk<|Qp<|(QD 0)<|(ga)<|(Qd 1) ?_
     refine (Ca (z7e hO b l vp v0 v1 vt fi tn dd y2 r2v ow vk us ps hk h1 hf1_2.1 hf1_2.2 ho _ ea he x hx9)) ?_
     refine zi (show _ = .agg (shC b l vp v0 v1 vt fi tn dd sn.1 ow sn.2 vk us) by rw [hsn]) ?_
     refine z7 (i := 0) (Uz 37) rfl rfl (z3 _ _) (za ⟨fun _ => rfl, fun _ => rfl, fun _ => h1.1, fun _ => h1.2.1, fun _ => h1.2.2.1, fun _ => h1.2.2.2.1, fun _ => rfl, fun _ => rfl, fun _ => rfl, fun _ => rfl, fun _ => rfl, fun _ => rfl, fun _ => rfl, fun _ => rfl, fun _ => rfl, fun _ => rfl, fun _ => rfl, fun _ => rfl, fun _ => rfl, fun _ => rfl, fun _ => rfl, fun _ => h1.2.2.2.2, fun _ => rfl, trivial⟩) rfl z8 (.inl rfl) ?_
     refine Qn<|(go) ?_
     refine QzL ⟨i + 1, _, _, rfl, rfl, rfl, by omega, (by rw [zan (by omega), ← hf1_1, ← hx, ← hsn]), (by rw [hsn]; exact okA hf1_2 he), (by rw [hsn]; exact zoH.trans hf1_3)⟩ ⟨rfl, rfl, rfl, rfl, rfl, rfl, rfl, rfl, rfl, trivial⟩ ⟨rfl, rfl, rfl, trivial⟩ ?_
     omega
  ·have hz1 : i = (qq q0 q1 a).length := by omega
   refine Qe<|(go) ?_
   refine QzL ⟨a + 1, _, _, rfl, rfl, rfl, by omega, (hf1_1.trans (by rw [hz1, List.take_length, hf0_1]; exact hstep a (by omega))), hf1_2, hf1_3⟩ ⟨rfl, rfl, rfl, rfl, rfl, trivial⟩ ⟨rfl, rfl, rfl, trivial⟩ ?_
   omega
 ·have hz0 : a = 2 := by omega
  refine Qe<|(gf) ?_
  refine z7 (i := 2) (Uz 37) rfl rfl (z3 _ _) (za ⟨fun _ => rfl, fun _ => rfl, fun _ => h1.1, fun _ => h1.2.1, fun _ => h1.2.2.1, fun _ => h1.2.2.2.1, fun _ => rfl, fun _ => rfl, fun _ => rfl, fun _ => rfl, fun _ => rfl, fun _ => rfl, fun _ => rfl, fun _ => rfl, fun _ => rfl, fun _ => rfl, fun _ => rfl, fun _ => rfl, fun _ => rfl, fun _ => rfl, fun _ => rfl, fun _ => h1.2.2.2.2, fun _ => rfl, trivial⟩) rfl z8 (.inl rfl) ?_
  refine (gh) ?_
  obtain rfl : z = (y1, r1v) := by rw [← hz, hf0_1, hz0, hs0]; rfl
  exact ⟨_, _, rfl, yb 2, yt⟩
theorem WZ (v : Value) (n : Nat) (xs : List Value) (hv : Shows G 32 v n xs) (h1 : ∀ u ∈ xs, u.oneCell' = true) (hm : n * 32 ≤ 140737488355328) : Fq G [] 24 #[v] (fun u l1 nw => l1 = [] ∧ ∃ v', u = v' ∧ OwnS 30 32 v' n xs nw) := by
 refine QfN Tryz.func24 ?_
 refine (gb)<|(gc) ?_
 refine z4g hv (Uu 24) rfl rfl rfl fun bq1_1 hbq1_1 => ?_
 refine Qn ?_
 refine ze rfl ?_ ?_
 ·intro hc0
  obtain rfl : n = 0 := hbq1_1 hc0
  obtain rfl : xs = [] := List.length_eq_zero_iff.1 (by have := hv.len; simpa using this)
  refine (gw) ?_
  exact ⟨_, _, _, 99, rfl, yt, (zw (ym _ _) (by simp) (by simp)), rfl⟩
 ·intro hc0
  refine Qk<|(g4) ?_
  refine Zc 0 (Uu 24 rfl) (Uz 30 rfl) rfl fun r1 => ?_
  refine (Qm) ?_
  refine x9 0 YW hv rfl zo (Uu 24) (Uz 30) (Uy 30) (Ub 30) (by rfl) rfl rfl h1 (by simp only [maxLen]; omega) (by omega) rfl fun v2_2 oz2_2 ho2_2 => ?_
  refine (gh) ?_
  exact ⟨_, _, _, 0, rfl, yt, (zw ho2_2 (by simp) (by simp)), rfl⟩
theorem Xb (v : Value) (n : Nat) (xs : List Value) (hv : Shows G 1 v n xs) (h1 : ∀ u ∈ xs, u.oneCell' = true) (hm : n * 8 ≤ 140737488355328) : Fq G [] 64 #[v] (fun u l1 nw => l1 = [] ∧ ∃ v', u = v' ∧ OwnS 3 1 v' n xs nw) := by
 refine QfN Tryz.func64 ?_
 refine (gb)<|(gc) ?_
 refine z4g hv (Uu 25) rfl rfl rfl fun bq1_1 hbq1_1 => ?_
 refine Qn ?_
 refine ze rfl ?_ ?_
 ·intro hc0
  obtain rfl : n = 0 := hbq1_1 hc0
  obtain rfl : xs = [] := List.length_eq_zero_iff.1 (by have := hv.len; simpa using this)
  refine (gw) ?_
  exact ⟨_, _, _, 99, rfl, yt, (zw (ym _ _) (by simp) (by simp)), rfl⟩
 ·intro hc0
  refine Qk<|(g4) ?_
  refine Zc 0 (Uu 25 rfl) (Uz 3 rfl) rfl fun r1 => ?_
  refine (Qm) ?_
  refine x9 0 YW hv rfl zo (Uu 25) (Uz 3) (Uy 3) (Ub 3) (by rfl) rfl rfl h1 (by simp only [maxLen]; omega) (by omega) rfl fun v2_2 oz2_2 ho2_2 => ?_
  refine (gh) ?_
  exact ⟨_, _, _, 0, rfl, yt, (zw ho2_2 (by simp) (by simp)), rfl⟩
theorem z8r (v : Value) (n : Nat) (xs : List Value) (hv : Shows G 1 v n xs) (h1 : ∀ u ∈ xs, u.oneCell' = true) (hm : n * 24 ≤ 140737488355328) : Fq G [] 65 #[v] (fun u l1 nw => l1 = [] ∧ ∃ v', u = v' ∧ OwnS 25 1 v' n xs nw) := by
 refine QfN Tryz.func65 ?_
 refine (gb)<|(gc) ?_
 refine z4g hv (Uu 27) rfl rfl rfl fun bq1_1 hbq1_1 => ?_
 refine Qn ?_
 refine ze rfl ?_ ?_
 ·intro hc0
  obtain rfl : n = 0 := hbq1_1 hc0
  obtain rfl : xs = [] := List.length_eq_zero_iff.1 (by have := hv.len; simpa using this)
  refine (gw) ?_
  exact ⟨_, _, _, 99, rfl, yt, (zw (ym _ _) (by simp) (by simp)), rfl⟩
 ·intro hc0
  refine Qk<|(g4) ?_
  refine Zc 0 (Uu 27 rfl) (Uz 25 rfl) rfl fun r1 => ?_
  refine (Qm) ?_
  refine x9 0 YW hv rfl zo (Uu 27) (Uz 25) (Uy 25) (Ub 25) (by rfl) rfl rfl h1 (by simp only [maxLen]; omega) (by omega) rfl fun v2_2 oz2_2 ho2_2 => ?_
  refine (gh) ?_
  exact ⟨_, _, _, 0, rfl, yt, (zw ho2_2 (by simp) (by simp)), rfl⟩
set_option maxRecDepth 20000 in
theorem z6x (hO : DOR ∈ G) (nm : LN) (hnb : By nm) (hnl : nm.length ≤ 1000000) (fi : Bool) (pv : Value) (pl : LN) (hpv : Sh G pv pl) (hpb : By pl) (hpl : pl.length ≤ 200) (ow th : NN) (ho : B32 ow) (hth : B32 th) (kn : Bool) (htk : kn = false → y4 32 th (fun _ => 0) = true) (ea : NN) (he : B32 ea) (vk : Value) (ps : List (NN)) (hk : Shows G 32 vk ps.length (psC ps)) (base : LN) (late : Bool) (qs : List Int) (q0 q1 : LN) (us : List (LN)) (hps : ps.length = qs.length) (hp4 : ps.length ≤ 4) (hqq : q0.length ≤ 1000 ∧ q1.length ≤ 1000) (ht0 : ∀ x ∈ q0, x = 1 ∨ x = 2) (ht1 : ∀ x ∈ q1, x = 1 ∨ x = 2) (hkn : ∀ a : Nat, a < 2 → ∀ x ∈ qq q0 q1 a, x = 2 → (fi == decide ((a : Int) = 0)) = false → kn = true) (hPar : Fq G [] 23 #[sv nm] (fun v l1 nw => l1 = [] ∧ ∃ w', v = .tuple #[w', ii 0] ∧ Z3 base late qs q0 q1 us w' nw)) (z : SY × RS) (hz : wW fi ow ea (npk ps) q0 q1 ((y6 (XU nm) pl), ((fun _ => 0), false, th, kn, (fun _ => 0), false)) = z) : Fq G [] 7 #[sv nm, .bool fi, pv, .agg (arr .u8 32 ow), .agg (arr .u8 32 th), .bool kn, .agg (arr .u8 32 ea), vk] (fun v l1 nw => l1 = [] ∧ ∃ v', v = .tuple #[v', ii 0] ∧ ZX base late qs (ci q0) (ci q1) (us.map ci) ps fi 0 false z.1 ow z.2 0 v' nw) := by
 obtain ⟨y2, hy2⟩ : ∃ y, y = y6 (XU nm) pl := ⟨_, rfl⟩
 have hyb := zah hnb
 have hyc : okY y2 := by rw [hy2]; exact wI hyb _
 have hR0 : okR ((fun _ => 0), false, th, kn, (fun _ => 0), false) := ⟨by intro _ _; exact (by decide : 0 < 256), hth, by intro _ _; exact (by decide : 0 < 256)⟩
 refine zf1 (n := 68) Tryz.func7 rfl rfl (by simp) (xM [sv nm, .bool fi, pv, .agg (arr .u8 32 ow), .agg (arr .u8 32 th), .bool kn, .agg (arr .u8 32 ea), vk] 0) (yi _) ?_
 refine (g4)<|(Qh 0) fun r1=>(Qh 1) fun r2=>(Qh 2) fun r3=>(QH 3) fun r4=>(g3)<|Qs<|QR ⟨[], 4, [], none, none⟩<|(Qm) ?_
 refine yf [(0, _), (1, _), (2, _), (3, _)] (by repeat (first | exact zq | exact zj _ | apply zg rfl)) ⟨rfl, rfl, rfl, rfl, trivial⟩ rfl rfl rfl (Un 23) zo hPar (vZ base late qs q0 q1 us) rfl rfl fun v1_1 nw1_1 hD1_1 => ?_
 simp only [zA]
 obtain ⟨_, rfl, uP, hP, a0, a1, uT, xs, rfl, hA0, hA1, hT, hxl, hL⟩ := hD1_1
 rw [← hxl] at hT
 refine (ge)<|(QH 4) fun r5=>?_
 refine z7 (i := 4) (Uz 29) rfl rfl (z3 _ _) (Zw (z5 hP) (z5 hA0) (z5 hA1) (z5 hT)) rfl z8 (.inl rfl) ?_
 refine (gx)<|(QN) ?_
 refine (Ab (decide_eq_false (by decide)))<|(gp)<|(gc)<|(QC hpv)<|(QG)<|(Qaf)<|(gk)<|(QC hk)<|(Qy)<|(Qf 2)<|(Qy)<|(QV 2 4)<|(Qy)<|(QC hP)<|(Qy)<|(QN)<|(Qaf)<|(QF)<|(gp)<|Qs<|Qs ?_
 cases kn
 ·skip
  refine Qp<|(Qm)<|(Q0)<|(g8)<|(Qd 1)<|(Qy) ?_
  refine vA (Ub 30 rfl) (Uu 30 rfl) z7O rfl ?_
  refine (Qy) ?_
  refine z38 (Uu 30) (Uu 5) (Uz 5) z2x rfl rfl rfl ?_
  refine (Ab (show (!y4 32 th (fun _ => 0)) = false by rw [htk rfl]; rfl))<|(QT)<|(gp)<|Qs<|(Qq ⟨[], 4, [], none, none⟩)<|(QD 4)<|(Qm)<|(Qd 0)<|(Qd 1)<|(ga) ?_
  refine yf [(0, _), (1, _), (2, _), (3, _), (4, _)] (by repeat (first | exact zq | exact zj _ | apply zg rfl)) ⟨rfl, rfl, rfl, rfl, rfl, trivial⟩ rfl rfl rfl (Un 24) zo ((WZ vk ps.length (psC ps) hk (z1g ps) (by omega)).imp fun u l1 nw ⟨h1, v9, h2, h3⟩ => ⟨h1, h2 ▸ h3.shows⟩) (yQ 32 (psC ps) ps.length (xH Ze ps)) rfl rfl fun v5_2 nw5_2 hD5_2 => ?_
  simp only [zA]
  revert v5_2
  intro uK sK
  refine yn ((shC base late uP a0 a1 uT fi 0 false SYZ ow ((fun _ => 0), false, th, false, (fun _ => 0), false) uK 0)) (Ub 37 rfl) (Uu 37 rfl) zkp rfl (by have h9 := z5 sK; clear sK; revert h9; cases uK with | agg a => intro h9; cases h9 | _ => intro _; show _ = _; kernel_rfl) rfl ?_
  refine (QH 5) fun r6=>?_
  refine z7 (i := 5) (Uz 37) rfl rfl (z3 _ _) (za ⟨fun _ => rfl, fun _ => rfl, fun _ => z5 hP, fun _ => z5 hA0, fun _ => z5 hA1, fun _ => z5 hT, fun _ => rfl, fun _ => rfl, fun _ => rfl, fun _ => rfl, fun _ => rfl, fun _ => rfl, fun _ => rfl, fun _ => rfl, fun _ => rfl, fun _ => rfl, fun _ => rfl, fun _ => rfl, fun _ => rfl, fun _ => rfl, fun _ => rfl, fun _ => z5 sK, fun _ => rfl, trivial⟩) rfl z8 (.inl rfl) ?_
  refine Qn<|(g5) ?_
  refine (Ca ((z0D (G := G) nm hnb (by omega)).more (in1 hO))) ?_
  refine (Av (SVy (XU nm)))<|(Qm) ?_
  refine (Ca (z25 hO (XU nm) hyb pv pl hpv hpb (by omega))) ?_
  refine zi (congrArg SVy hy2.symm) ?_
  refine (Qf 9)<|(QtK 5 9 5) ?_
  refine xQ (c' := ((shC base late uP a0 a1 uT fi 0 false y2 ow ((fun _ => 0), false, th, false, (fun _ => 0), false) uK 0))) rfl ?_
  refine (gg)<|(QD 5)<|(Qd 2) ?_
  refine zD rfl rfl (Un 27) (zh zo (zR (by repeat (first | exact zq | exact zj _ | apply zg rfl)) rfl)) (z0T (G := G ++ (([] ++ nw1_1) ++ nw5_2)) (List.mem_append_left _ hO) base late uP a0 a1 uT fi 0 false y2 ((fun _ => 0), false, th, false, (fun _ => 0), false) ow uK 0 ps (sK.mono (fun x hx => List.mem_append_right _ (List.mem_append_right _ hx))) ⟨z5 hP, z5 hA0, z5 hA1, z5 hT, z5 sK⟩ hyc hR0 ho ea he q0 q1 (hA0.mono (fun x hx => List.mem_append_right _ (List.mem_append_left _ (List.mem_append_right _ hx)))) (hA1.mono (fun x hx => List.mem_append_right _ (List.mem_append_left _ (List.mem_append_right _ hx)))) ht0 ht1 hqq hkn z (by rw [hy2]; exact hz)) rfl rfl ?_
  refine (g9) ?_
  refine z7 (i := 3) (Uz 37) rfl rfl (z3 _ _) (za ⟨fun _ => rfl, fun _ => rfl, fun _ => z5 hP, fun _ => z5 hA0, fun _ => z5 hA1, fun _ => z5 hT, fun _ => rfl, fun _ => rfl, fun _ => rfl, fun _ => rfl, fun _ => rfl, fun _ => rfl, fun _ => rfl, fun _ => rfl, fun _ => rfl, fun _ => rfl, fun _ => rfl, fun _ => rfl, fun _ => rfl, fun _ => rfl, fun _ => rfl, fun _ => z5 sK, fun _ => rfl, trivial⟩) rfl z8 (.inl rfl) ?_
  refine (gh) ?_
  exact ⟨_, _, _, (([] ++ nw1_1) ++ nw5_2), rfl, yb 3, yt, ⟨uP, a0, a1, uT, uK, xs, rfl, hP.mono (fun x hx => List.mem_append_left _ (List.mem_append_right _ hx)), hT.mono (fun x hx => List.mem_append_left _ (List.mem_append_right _ hx)), z45 (hA0.mono (fun x hx => List.mem_append_left _ (List.mem_append_right _ hx))) (hA1.mono (fun x hx => List.mem_append_left _ (List.mem_append_right _ hx))) ⟨hL.1, fun j hj => (hL.2 j hj).mono (fun x hx => List.mem_append_left _ (List.mem_append_right _ hx))⟩, sK.mono (fun x hx => List.mem_append_right _ hx), ⟨z5 hP, z5 hA0, z5 hA1, z5 hT, z5 sK⟩⟩, (by repeat (first | exact zq | exact zj _ | apply zg rfl))⟩
 ·skip
  refine Qp<|(Qm)<|(Q0)<|(Qm)<|(gz)<|(QF)<|(gp)<|Qs<|(Qq ⟨[], 4, [], none, none⟩)<|(QD 4)<|(Qm)<|(Qd 0)<|(Qd 1)<|(ga) ?_
  refine yf [(0, _), (1, _), (2, _), (3, _), (4, _)] (by repeat (first | exact zq | exact zj _ | apply zg rfl)) ⟨rfl, rfl, rfl, rfl, rfl, trivial⟩ rfl rfl rfl (Un 24) zo ((WZ vk ps.length (psC ps) hk (z1g ps) (by omega)).imp fun u l1 nw ⟨h1, v9, h2, h3⟩ => ⟨h1, h2 ▸ h3.shows⟩) (yQ 32 (psC ps) ps.length (xH Ze ps)) rfl rfl fun v5_2 nw5_2 hD5_2 => ?_
  simp only [zA]
  revert v5_2
  intro uK sK
  refine yn ((shC base late uP a0 a1 uT fi 0 false SYZ ow ((fun _ => 0), false, th, true, (fun _ => 0), false) uK 0)) (Ub 37 rfl) (Uu 37 rfl) zkp rfl (by have h9 := z5 sK; clear sK; revert h9; cases uK with | agg a => intro h9; cases h9 | _ => intro _; show _ = _; kernel_rfl) rfl ?_
  refine (QH 5) fun r6=>?_
  refine z7 (i := 5) (Uz 37) rfl rfl (z3 _ _) (za ⟨fun _ => rfl, fun _ => rfl, fun _ => z5 hP, fun _ => z5 hA0, fun _ => z5 hA1, fun _ => z5 hT, fun _ => rfl, fun _ => rfl, fun _ => rfl, fun _ => rfl, fun _ => rfl, fun _ => rfl, fun _ => rfl, fun _ => rfl, fun _ => rfl, fun _ => rfl, fun _ => rfl, fun _ => rfl, fun _ => rfl, fun _ => rfl, fun _ => rfl, fun _ => z5 sK, fun _ => rfl, trivial⟩) rfl z8 (.inl rfl) ?_
  refine Qn<|(g5) ?_
  refine (Ca ((z0D (G := G) nm hnb (by omega)).more (in1 hO))) ?_
  refine (Av (SVy (XU nm)))<|(Qm) ?_
  refine (Ca (z25 hO (XU nm) hyb pv pl hpv hpb (by omega))) ?_
  refine zi (congrArg SVy hy2.symm) ?_
  refine (Qf 9)<|(QtK 5 9 5) ?_
  refine xQ (c' := ((shC base late uP a0 a1 uT fi 0 false y2 ow ((fun _ => 0), false, th, true, (fun _ => 0), false) uK 0))) rfl ?_
  refine (gg)<|(QD 5)<|(Qd 2) ?_
  refine zD rfl rfl (Un 27) (zh zo (zR (by repeat (first | exact zq | exact zj _ | apply zg rfl)) rfl)) (z0T (G := G ++ (([] ++ nw1_1) ++ nw5_2)) (List.mem_append_left _ hO) base late uP a0 a1 uT fi 0 false y2 ((fun _ => 0), false, th, true, (fun _ => 0), false) ow uK 0 ps (sK.mono (fun x hx => List.mem_append_right _ (List.mem_append_right _ hx))) ⟨z5 hP, z5 hA0, z5 hA1, z5 hT, z5 sK⟩ hyc hR0 ho ea he q0 q1 (hA0.mono (fun x hx => List.mem_append_right _ (List.mem_append_left _ (List.mem_append_right _ hx)))) (hA1.mono (fun x hx => List.mem_append_right _ (List.mem_append_left _ (List.mem_append_right _ hx)))) ht0 ht1 hqq hkn z (by rw [hy2]; exact hz)) rfl rfl ?_
  refine (g9) ?_
  refine z7 (i := 3) (Uz 37) rfl rfl (z3 _ _) (za ⟨fun _ => rfl, fun _ => rfl, fun _ => z5 hP, fun _ => z5 hA0, fun _ => z5 hA1, fun _ => z5 hT, fun _ => rfl, fun _ => rfl, fun _ => rfl, fun _ => rfl, fun _ => rfl, fun _ => rfl, fun _ => rfl, fun _ => rfl, fun _ => rfl, fun _ => rfl, fun _ => rfl, fun _ => rfl, fun _ => rfl, fun _ => rfl, fun _ => rfl, fun _ => z5 sK, fun _ => rfl, trivial⟩) rfl z8 (.inl rfl) ?_
  refine (gh) ?_
  exact ⟨_, _, _, (([] ++ nw1_1) ++ nw5_2), rfl, yb 3, yt, ⟨uP, a0, a1, uT, uK, xs, rfl, hP.mono (fun x hx => List.mem_append_left _ (List.mem_append_right _ hx)), hT.mono (fun x hx => List.mem_append_left _ (List.mem_append_right _ hx)), z45 (hA0.mono (fun x hx => List.mem_append_left _ (List.mem_append_right _ hx))) (hA1.mono (fun x hx => List.mem_append_left _ (List.mem_append_right _ hx))) ⟨hL.1, fun j hj => (hL.2 j hj).mono (fun x hx => List.mem_append_left _ (List.mem_append_right _ hx))⟩, sK.mono (fun x hx => List.mem_append_right _ hx), ⟨z5 hP, z5 hA0, z5 hA1, z5 hT, z5 sK⟩⟩, (by repeat (first | exact zq | exact zj _ | apply zg rfl))⟩
theorem zao (rp ra rb : Nat) (base : LN) (late : Bool) (vp v0 v1 vt : Value) (a c b d : NN) (ha : B32 a) (q : LN) (hv : Shows G 1 v0 q.length ((ci q).map iv)) (hz : q.length ≤ 1000000) : Fp ((⟨rp, Ya base late vp v0 v1 vt, 29⟩ : Blk) :: (⟨ra, arr .u8 64 (sdF a c), 54⟩ : Blk) :: (⟨rb, arr .u8 64 (sdF b d), 54⟩ : Blk) :: G) 50 #[ii 0, ptr rp, ptr ra, ptr rb] (.tuple #[.agg (arr .u8 32 (if 2 ∈ q then zN a else fun _ => 0)), .bool (decide (2 ∈ q))]) := by
 have hv9 : Shows ((⟨rp, Ya base late vp v0 v1 vt, 29⟩ : Blk) :: (⟨ra, arr .u8 64 (sdF a c), 54⟩ : Blk) :: (⟨rb, arr .u8 64 (sdF b d), 54⟩ : Blk) :: G) 1 v0 q.length ((ci q).map iv) := hv.mono fun x hx => List.mem_cons_of_mem _ (List.mem_cons_of_mem _ (List.mem_cons_of_mem _ hx))
 refine Qf2 Tryz.func50 ?_
 refine (g4)<|(QH 0) fun r1=>(gx)<|(Qf 3)<|(QB 3) ?_
 refine yo (i := 0) (Uu 25) rfl rfl rfl (show _ = some v0 from rfl) rfl ?_
 refine (QC hv9)<|(Qm)<|Qn<|Qb ?_
 refine QzK [(0, _), (2, _), (3, _), (5, _), (12, _), (13, _)] [(0, _)] (fun kk E m => ∃ (i : Nat), kk = q.length - i ∧ E = [(14, ii i)] ∧ m = [] ∧ (i ≤ q.length) ∧ (∀ j, j < i → q.getD j 0 ≠ 2)) ⟨0, rfl, rfl, rfl, by omega, fun _ h => absurd h (Nat.not_lt_zero _)⟩ ⟨rfl, rfl, rfl, rfl, rfl, rfl, rfl, trivial⟩ ⟨rfl, trivial⟩ ?_
 rintro kk E m ⟨i, rfl, rfl, rfl, hf0_0, hf0_1⟩
 simp only [zB, zA]
 refine (gt) ?_
 refine (Qcd) (fun hc0=>?_) fun hc0=>?_
 ·have hc0 : i < q.length := by omega
  refine Qk<|Qs<|Qb<|(g4) ?_
  refine xf hv9 (Uu 25) (Uz 3) rfl rfl (by omega) rfl ?_
  refine (QS) ?_
  refine yc hv9 zo (Uu 3) rfl rfl (z0x (by omega)) rfl ?_
  refine (Av (ii (q.getD i 0)))<|(gj)<|(Qc)<|Qn ?_
  refine ze rfl ?_ ?_
  ·intro hc1
   have h2 : 2 ∈ q := zgB (by omega) (of_decide_eq_true hc1)
   rw [if_pos h2, decide_eq_true h2]
   refine (g4) ?_
   refine Wo (i := 1) (Uu 54) rfl (Uz 54) rfl rfl (zH _ _ _) rfl ?_
   refine Wo (i := 2) (Uu 54) rfl (Uz 54) rfl rfl (zH _ _ _) rfl ?_
   refine zu 1 (arr .u8 128 (sdG a c b d)) (Uu 90 rfl) (Uz 54 rfl) (Ub 54 rfl) (by decide) (by decide) rfl (by kernel_rfl) rfl fun r2 => ?_
   refine (Qm) ?_
   refine Zy (0) (Uu 90) (Uz 54) rfl rfl (by omega) (by omega) rfl ?_
   refine (Qf 0)<|(Qls 1) ?_
   refine zi (show _ = Value.agg (arr .u8 32 a) from congrArg Value.agg (zz fun j hj => zoE hj)) ?_
   refine (Ca (xL a ha)) ?_
   refine (Av (Value.agg (arr .u8 32 (zN a))))<|(Qt 0)<|(gh) ?_
   first | rw [if_neg (vr (fun j hj => hf0_1 j (by omega))), decide_eq_false (vr (fun j hj => hf0_1 j (by omega)))] | skip
   exact ⟨_, _, rfl, ya 0, yt⟩
  ·intro hc1
   have hcf : q.getD i 0 ≠ 2 := fun h => of_decide_eq_false hc1 (by omega)
   refine Qk<|(go) ?_
   refine QzL ⟨i + 1, rfl, rfl, rfl, by omega, fun j hj => by by_cases e : j = i; (subst e; exact hcf); exact hf0_1 j (by omega)⟩ ⟨rfl, rfl, rfl, rfl, rfl, rfl, rfl, trivial⟩ ⟨rfl, trivial⟩ ?_
   omega
 ·have hz0 : i = q.length := by omega
  refine Qe<|(g4) ?_
  refine vA (Ub 30 rfl) (Uu 30 rfl) z7O rfl ?_
  refine (Qt 0)<|(gh) ?_
  first | rw [if_neg (vr (fun j hj => hf0_1 j (by omega))), decide_eq_false (vr (fun j hj => hf0_1 j (by omega)))] | skip
  exact ⟨_, _, rfl, ya 0, yt⟩
theorem zcJ (rp ra rb : Nat) (base : LN) (late : Bool) (vp v0 v1 vt : Value) (a c b d : NN) (ha : B32 b) (q : LN) (hv : Shows G 1 v1 q.length ((ci q).map iv)) (hz : q.length ≤ 1000000) : Fp ((⟨rp, Ya base late vp v0 v1 vt, 29⟩ : Blk) :: (⟨ra, arr .u8 64 (sdF a c), 54⟩ : Blk) :: (⟨rb, arr .u8 64 (sdF b d), 54⟩ : Blk) :: G) 50 #[ii 1, ptr rp, ptr ra, ptr rb] (.tuple #[.agg (arr .u8 32 (if 2 ∈ q then zN b else fun _ => 0)), .bool (decide (2 ∈ q))]) := by
 have hv9 : Shows ((⟨rp, Ya base late vp v0 v1 vt, 29⟩ : Blk) :: (⟨ra, arr .u8 64 (sdF a c), 54⟩ : Blk) :: (⟨rb, arr .u8 64 (sdF b d), 54⟩ : Blk) :: G) 1 v1 q.length ((ci q).map iv) := hv.mono fun x hx => List.mem_cons_of_mem _ (List.mem_cons_of_mem _ (List.mem_cons_of_mem _ hx))
 refine Qf2 Tryz.func50 ?_
 refine (g4)<|(QH 0) fun r1=>(gx)<|(Qf 3)<|(QB 4) ?_
 refine yo (i := 0) (Uu 25) rfl rfl rfl (show _ = some v1 from rfl) rfl ?_
 refine (QC hv9)<|(Qm)<|Qn<|Qb ?_
 refine QzK [(0, _), (2, _), (3, _), (5, _), (12, _), (13, _)] [(0, _)] (fun kk E m => ∃ (i : Nat), kk = q.length - i ∧ E = [(14, ii i)] ∧ m = [] ∧ (i ≤ q.length) ∧ (∀ j, j < i → q.getD j 0 ≠ 2)) ⟨0, rfl, rfl, rfl, by omega, fun _ h => absurd h (Nat.not_lt_zero _)⟩ ⟨rfl, rfl, rfl, rfl, rfl, rfl, rfl, trivial⟩ ⟨rfl, trivial⟩ ?_
 rintro kk E m ⟨i, rfl, rfl, rfl, hf0_0, hf0_1⟩
 simp only [zB, zA]
 refine (gt) ?_
 refine (Qcd) (fun hc0=>?_) fun hc0=>?_
 ·have hc0 : i < q.length := by omega
  refine Qk<|Qs<|Qb<|(g4) ?_
  refine xf hv9 (Uu 25) (Uz 3) rfl rfl (by omega) rfl ?_
  refine (QS) ?_
  refine yc hv9 zo (Uu 3) rfl rfl (z0x (by omega)) rfl ?_
  refine (Av (ii (q.getD i 0)))<|(gj)<|(Qc)<|Qn ?_
  refine ze rfl ?_ ?_
  ·intro hc1
   have h2 : 2 ∈ q := zgB (by omega) (of_decide_eq_true hc1)
   rw [if_pos h2, decide_eq_true h2]
   refine (g4) ?_
   refine Wo (i := 1) (Uu 54) rfl (Uz 54) rfl rfl (zH _ _ _) rfl ?_
   refine Wo (i := 2) (Uu 54) rfl (Uz 54) rfl rfl (zH _ _ _) rfl ?_
   refine zu 1 (arr .u8 128 (sdG a c b d)) (Uu 90 rfl) (Uz 54 rfl) (Ub 54 rfl) (by decide) (by decide) rfl (by kernel_rfl) rfl fun r2 => ?_
   refine (Qm) ?_
   refine Zy (64) (Uu 90) (Uz 54) rfl rfl (by omega) (by omega) rfl ?_
   refine (Qf 64)<|(Qls 1) ?_
   refine zi (show _ = Value.agg (arr .u8 32 b) from congrArg Value.agg (zz fun j hj => zoF hj)) ?_
   refine (Ca (xL b ha)) ?_
   refine (Av (Value.agg (arr .u8 32 (zN b))))<|(Qt 0)<|(gh) ?_
   first | rw [if_neg (vr (fun j hj => hf0_1 j (by omega))), decide_eq_false (vr (fun j hj => hf0_1 j (by omega)))] | skip
   exact ⟨_, _, rfl, ya 0, yt⟩
  ·intro hc1
   have hcf : q.getD i 0 ≠ 2 := fun h => of_decide_eq_false hc1 (by omega)
   refine Qk<|(go) ?_
   refine QzL ⟨i + 1, rfl, rfl, rfl, by omega, fun j hj => by by_cases e : j = i; (subst e; exact hcf); exact hf0_1 j (by omega)⟩ ⟨rfl, rfl, rfl, rfl, rfl, rfl, rfl, trivial⟩ ⟨rfl, trivial⟩ ?_
   omega
 ·have hz0 : i = q.length := by omega
  refine Qe<|(g4) ?_
  refine vA (Ub 30 rfl) (Uu 30 rfl) z7O rfl ?_
  refine (Qt 0)<|(gh) ?_
  first | rw [if_neg (vr (fun j hj => hf0_1 j (by omega))), decide_eq_false (vr (fun j hj => hf0_1 j (by omega)))] | skip
  exact ⟨_, _, rfl, ya 0, yt⟩
set_option maxRecDepth 20000 in
theorem zmC (hO : DOR ∈ G) (base : LN) (late : Bool) (vp v0 v1 vt : Value) (a c b d : NN) (ha : B32 a) (hb : B32 b) (vk : Value) (ps : List (NN)) (hk : Shows G 32 vk ps.length (psC ps)) (pv : Value) (pl : LN) (hpv : Sh G pv pl) (hpb : By pl) (hpl : pl.length ≤ 200) (qs : List Int) (q0 q1 : LN) (us : List (LN)) (hv0 : Shows G 1 v0 q0.length ((ci q0).map iv)) (hv1 : Shows G 1 v1 q1.length ((ci q1).map iv)) (hps : ps.length = qs.length) (hp4 : ps.length ≤ 4) (hqq : q0.length ≤ 1000 ∧ q1.length ≤ 1000) (ht0 : ∀ x ∈ q0, x = 1 ∨ x = 2) (ht1 : ∀ x ∈ q1, x = 1 ∨ x = 2) (nm : LN) (hnb : By nm) (hnl : nm.length ≤ 1000000) (hSh : Fp G 49 #[.agg (Ya base late vp v0 v1 vt)] (.tuple #[sv nm, ii 0])) (hPar : Fq G [] 23 #[sv nm] (fun v l1 nw => l1 = [] ∧ ∃ w', v = .tuple #[w', ii 0] ∧ Z3 base late qs q0 q1 us w' nw)) (zx zy : SY × RS) (hzx : wW true a (fun _ => 0) (npk ps) q0 q1 ((y6 (XU nm) pl), ((fun _ => 0), false, (if 2 ∈ q1 then zN b else fun _ => 0), (decide (2 ∈ q1)), (fun _ => 0), false)) = zx) (hzy : wW false b (fun _ => 0) (npk ps) q0 q1 ((y6 (XU nm) pl), ((fun _ => 0), false, (if 2 ∈ q0 then zN a else fun _ => 0), (decide (2 ∈ q0)), (fun _ => 0), false)) = zy) : Fq G [] 16 #[.agg (Ya base late vp v0 v1 vt), .agg (arr .u8 64 (sdF a c)), .agg (arr .u8 64 (sdF b d)), vk, pv] (fun v l1 nw => l1 = [] ∧ zkr base late qs q0 q1 us ps a b zx zy v nw) := by
 have hthx : B32 (if 2 ∈ q1 then zN b else fun _ => 0) := by split; exact wo b; exact wD
 have hthy : B32 (if 2 ∈ q0 then zN a else fun _ => 0) := by split; exact wo a; exact wD
 refine zl1 (n := 74) Tryz.func16 rfl rfl (by simp) (xM [.agg (Ya base late vp v0 v1 vt), .agg (arr .u8 64 (sdF a c)), .agg (arr .u8 64 (sdF b d)), vk, pv] 0) (yi _) ?_
 refine (g4)<|(Qh 0) fun r1=>(Qh 1) fun r2=>(Qh 2) fun r3=>(QH 3) fun r4=>(QH 4) fun r5=>(g3)<|(gf) ?_
 refine (Ca hSh)<|(ge)<|(g7)<|(g4)<|(QY)<|(gj) ?_
 refine zD rfl rfl (Un 50) (zh (A := [_]) (zY 0 rfl ⟨[], trivial⟩) (zh (A := [_]) (zY 1 rfl ⟨[], trivial⟩) (zh (A := [_]) (zY 2 rfl ⟨[], trivial⟩) zo))) (zcJ r1 r2 r3 base late vp v0 v1 vt a c b d hb q1 hv1 (by omega)) rfl rfl ?_
 refine (ge)<|(QH 5) fun r6=>(Qt 5)<|(g3)<|Qs<|QR ⟨[], 4, [], none, none⟩<|(ga)<|(Qf 0)<|(Qls 1) ?_
 refine zi (show _ = Value.agg (arr .u8 32 a) from congrArg Value.agg (zz fun j hj => zky hj)) ?_
 refine (Qd 5)<|(Qm) ?_
 refine vA (Ub 30 rfl) (Uu 30 rfl) z7O rfl ?_
 refine (Qm) ?_
 refine yf [(0, _), (1, _), (2, _), (3, _), (4, _), (5, _)] (by repeat (first | exact zq | exact zj _ | apply zg rfl)) ⟨rfl, rfl, rfl, rfl, rfl, rfl, trivial⟩ rfl rfl rfl (Un 7) zo (z6x hO nm hnb hnl true pv pl hpv hpb hpl a (if 2 ∈ q1 then zN b else fun _ => 0) ha hthx (decide (2 ∈ q1)) (fun h => by rw [if_neg (of_decide_eq_false h)]; decide) (fun _ => 0) wD vk ps hk base late qs q0 q1 us hps hp4 hqq ht0 ht1 (zmt) hPar zx hzx) (z5k base late qs (ci q0) (ci q1) (us.map ci) ps true 0 false zx.1 a zx.2 0) rfl rfl fun v1_1 nw1_1 hD1_1 => ?_
 simp only [zA]
 obtain ⟨_, rfl, P1, A1, B1, T1, K1, l1, rfl, hP1, hT1, hL1, hK1, h11⟩ := hD1_1
 refine (ge)<|(QH 6) fun r7=>?_
 refine z7 (i := 6) (Uz 37) rfl rfl (z3 _ _) (za ⟨fun _ => rfl, fun _ => rfl, fun _ => h11.1, fun _ => h11.2.1, fun _ => h11.2.2.1, fun _ => h11.2.2.2.1, fun _ => rfl, fun _ => rfl, fun _ => rfl, fun _ => rfl, fun _ => rfl, fun _ => rfl, fun _ => rfl, fun _ => rfl, fun _ => rfl, fun _ => rfl, fun _ => rfl, fun _ => rfl, fun _ => rfl, fun _ => rfl, fun _ => rfl, fun _ => h11.2.2.2.2, fun _ => rfl, trivial⟩) rfl z8 (.inl rfl) ?_
 refine (gj) ?_
 refine zD rfl rfl (Un 50) (zh (A := [_]) (zY 0 rfl ⟨[], trivial⟩) (zh (A := [_]) (zY 1 rfl ⟨[], trivial⟩) (zh (A := [_]) (zY 2 rfl ⟨[], trivial⟩) zo))) (zao r1 r2 r3 base late vp v0 v1 vt a c b d ha q0 hv0 (by omega)) rfl rfl ?_
 refine (ge)<|(Qt 5)<|(g3)<|Qs<|QR ⟨[], 4, [], none, none⟩<|(ga)<|(Qf 0)<|(Qls 2) ?_
 refine zi (show _ = Value.agg (arr .u8 32 b) from congrArg Value.agg (zz fun j hj => zky hj)) ?_
 refine (Qd 5)<|(Qm) ?_
 refine vA (Ub 30 rfl) (Uu 30 rfl) z7O rfl ?_
 refine (Qm) ?_
 refine yf [(0, _), (1, _), (2, _), (3, _), (4, _), (5, _), (6, _)] (by repeat (first | exact zq | exact zj _ | apply zg rfl)) ⟨rfl, rfl, rfl, rfl, rfl, rfl, rfl, trivial⟩ rfl rfl rfl (Un 7) zo (z6x hO nm hnb hnl false pv pl hpv hpb hpl b (if 2 ∈ q0 then zN a else fun _ => 0) hb hthy (decide (2 ∈ q0)) (fun h => by rw [if_neg (of_decide_eq_false h)]; decide) (fun _ => 0) wD vk ps hk base late qs q0 q1 us hps hp4 hqq ht0 ht1 (zmA) hPar zy hzy) (z5k base late qs (ci q0) (ci q1) (us.map ci) ps false 0 false zy.1 b zy.2 0) rfl rfl fun v1_2 nw1_2 hD1_2 => ?_
 simp only [zA]
 obtain ⟨_, rfl, P2, A2, B2, T2, K2, l2, rfl, hP2, hT2, hL2, hK2, h12⟩ := hD1_2
 refine (ge)<|(QH 7) fun r8=>?_
 refine z7 (i := 7) (Uz 37) rfl rfl (z3 _ _) (za ⟨fun _ => rfl, fun _ => rfl, fun _ => h12.1, fun _ => h12.2.1, fun _ => h12.2.2.1, fun _ => h12.2.2.2.1, fun _ => rfl, fun _ => rfl, fun _ => rfl, fun _ => rfl, fun _ => rfl, fun _ => rfl, fun _ => rfl, fun _ => rfl, fun _ => rfl, fun _ => rfl, fun _ => rfl, fun _ => rfl, fun _ => rfl, fun _ => rfl, fun _ => rfl, fun _ => h12.2.2.2.2, fun _ => rfl, trivial⟩) rfl z8 (.inl rfl) ?_
 refine (g3)<|Qs<|(Qq ⟨[r4, r5], 1, [], none, none⟩) ?_
 refine zS (i := 6) (Uu 37) rfl (Uz 37) rfl rfl (z3 _ _) rfl ⟨[3, 4], rfl, rfl, rfl, rfl, trivial⟩ ?_
 refine zS (i := 7) (Uu 37) rfl (Uz 37) rfl rfl (z3 _ _) rfl ⟨[3, 4], rfl, rfl, rfl, rfl, trivial⟩ ?_
 refine (Qm)<|(Qc)<|(Qar)<|(gk)<|(Qc)<|(Qar)<|(QT)<|(gk)<|(Qc)<|(Qar)<|(QT) ?_
 refine z7 (i := 3) (Uz 37) rfl rfl (z3 _ _) (za ⟨fun _ => rfl, fun _ => rfl, fun _ => h11.1, fun _ => h11.2.1, fun _ => h11.2.2.1, fun _ => h11.2.2.2.1, fun _ => rfl, fun _ => rfl, fun _ => rfl, fun _ => rfl, fun _ => rfl, fun _ => rfl, fun _ => rfl, fun _ => rfl, fun _ => rfl, fun _ => rfl, fun _ => rfl, fun _ => rfl, fun _ => rfl, fun _ => rfl, fun _ => rfl, fun _ => h11.2.2.2.2, fun _ => rfl, trivial⟩) rfl z8 (.inr (by simp)) ?_
 refine z7 (i := 4) (Uz 37) rfl rfl (z3 _ _) (za ⟨fun _ => rfl, fun _ => rfl, fun _ => h12.1, fun _ => h12.2.1, fun _ => h12.2.2.1, fun _ => h12.2.2.2.1, fun _ => rfl, fun _ => rfl, fun _ => rfl, fun _ => rfl, fun _ => rfl, fun _ => rfl, fun _ => rfl, fun _ => rfl, fun _ => rfl, fun _ => rfl, fun _ => rfl, fun _ => rfl, fun _ => rfl, fun _ => rfl, fun _ => rfl, fun _ => h12.2.2.2.2, fun _ => rfl, trivial⟩) rfl z8 (.inr (by simp)) ?_
 refine (gh) ?_
 exact ⟨_, _, _, _, _, _, (([] ++ nw1_1) ++ nw1_2), rfl, yb 3, yb 4, yt, ⟨_, _, rfl, wV ⟨P1, A1, B1, T1, K1, l1, rfl, hP1, hT1, hL1, hK1, h11⟩ (fun x hx => by simp [hx]), wV ⟨P2, A2, B2, T2, K2, l2, rfl, hP2, hT2, hL2, hK2, h12⟩ (fun x hx => by simp [hx])⟩, (by repeat (first | exact zq | exact zj _ | apply zg rfl))⟩
end Go.Proofs.YtacflmjoigffpaaGreatDoor
