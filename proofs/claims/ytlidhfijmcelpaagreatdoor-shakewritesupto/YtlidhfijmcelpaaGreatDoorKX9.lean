import Derived.Test.YtlidhfijmcelpaaGreatDoorKX8
set_option maxHeartbeats 8000000
set_option maxRecDepth 30000
attribute [local simp] Go.Proofs.YtlidhfijmcelpaaGreatDoor.By Go.Proofs.YtlidhfijmcelpaaGreatDoor.L8
namespace Go.Proofs.YtlidhfijmcelpaaGreatDoor
open Go Go.RowKit
variable {G : Mem}
theorem zc3 (o has : Bool) (k : NN) (n : Nat) (va vt : Value) (hok : okC has k n = false) : Fp G 55 #[.bool o, CV has k n, va, vt] (.tuple #[CZ, yg, ii 9]) := by
 refine Qf3 Tryz.func55 ?_
 refine (g4)<|(Qh 0) fun r1=>(QH 1) fun r2=>(g8)<|Qs<|(gd) ?_
 refine (Ca (vC has k n)) ?_
 refine (Ai (show (if okC has k n = true then 0 else 9) = 9 by rw [hok]; rfl))<|(jm)<|(gv)<|(g4) ?_
 refine zA (cells 34 [pV (.bool false), pI .u8 32 (fun _ => 0), pV (.int .u64 0)]) (Ub 33 rfl) (Uu 33 rfl) vM rfl (by kernel_rfl) rfl ?_
 refine (Qm)<|(jk) ?_
 exact ⟨_, _, _, rfl, yb 1, yt, yt⟩
theorem zbJ (o : Bool) (k : NN) (n : Nat) (va vt : Value) (tx : LN) (hvt : Sh G vt tx) (hok : okC false k n = true) (hl : 800 < tx.length) : Fp G 55 #[.bool o, CV false k n, va, vt] (.tuple #[CZ, yg, ii 1]) := by
 refine Qf3 Tryz.func55 ?_
 refine (g4)<|(Qh 0) fun r1=>(QH 1) fun r2=>(g8)<|Qs<|(gd) ?_
 refine (Ca (vC false k n)) ?_
 refine (Ai (show (if okC false k n = true then 0 else 9) = 0 by rw [hok]; rfl))<|(jm)<|(jt)<|(j0)<|(Q0)<|(gv)<|(ge)<|(QC hvt)<|(QG)<|(Qat)<|(gv)<|(g4) ?_
 refine zA (cells 34 [pV (.bool false), pI .u8 32 (fun _ => 0), pV (.int .u64 0)]) (Ub 33 rfl) (Uu 33 rfl) vM rfl (by kernel_rfl) rfl ?_
 refine (jk) ?_
 exact ⟨_, _, _, rfl, yb 1, yt, yt⟩
theorem z6N (o : Bool) (k : NN) (n : Nat) (va vt : Value) (tx : LN) (hvt : Sh G vt tx) (hok : okC false k n = true) (hl : tx.length ≤ 800) : Fp G 55 #[.bool o, CV false k n, va, vt] (.tuple #[CV false k n, vt, ii 0]) := by
 refine Qf3 Tryz.func55 ?_
 refine (g4)<|(Qh 0) fun r1=>(QH 1) fun r2=>(g8)<|Qs<|(gd) ?_
 refine (Ca (vC false k n)) ?_
 refine (Ai (show (if okC false k n = true then 0 else 9) = 0 by rw [hok]; rfl))<|(jm)<|(jt)<|(j0)<|(Q0)<|(gv)<|(ge)<|(QC hvt)<|(QG)<|(j8)<|(gd)<|(Qm)<|(jk) ?_
 exact ⟨_, _, _, rfl, yb 1, yt, yt⟩
theorem zaQ (o : Bool) (k : NN) (n : Nat) (va vt : Value) (hn : n = 18446744073709551615) : Fp G 55 #[.bool o, CV true k n, va, vt] (.tuple #[CZ, yg, ii 11]) := by
 have hok : okC true k n = true := rfl
 refine Qf3 Tryz.func55 ?_
 refine (g4)<|(Qh 0) fun r1=>(QH 1) fun r2=>(g8)<|Qs<|(gd) ?_
 refine (Ca (vC true k n)) ?_
 refine (Ai (show (if okC true k n = true then 0 else 9) = 0 by rw [hok]; rfl))<|(jm)<|(jt)<|(j0)<|(Q0)<|(jt)<|(gx) ?_
 refine wM (q := 1) rfl rfl rfl  ?_
 refine (Qc) ?_
 refine (Ab (decide_eq_true (by rw [hn]; decide)))<|(gv)<|(g4) ?_
 refine zA (cells 34 [pV (.bool false), pI .u8 32 (fun _ => 0), pV (.int .u64 0)]) (Ub 33 rfl) (Uu 33 rfl) vM rfl (by kernel_rfl) rfl ?_
 refine (jk) ?_
 exact ⟨_, _, _, rfl, yb 1, yt, yt⟩
theorem z07 (k : NN) (n : Nat) (va vt : Value) (hn : n < 18446744073709551615) (e : Nat) (he : e ≠ 0) (hE : Fp G 99 #[.agg (arr .u8 32 k), .agg (arr .u8 12 (wb n)), va, vt] (.tuple #[yg, ii e])) : Fp G 55 #[.bool false, CV true k n, va, vt] (.tuple #[CZ, yg, ii e]) := by
 have hok : okC true k n = true := rfl
 refine Qf3 Tryz.func55 ?_
 refine (g4)<|(Qh 0) fun r1=>(QH 1) fun r2=>(g8)<|Qs<|(gd) ?_
 refine (Ca (vC true k n)) ?_
 refine (Ai (show (if okC true k n = true then 0 else 9) = 0 by rw [hok]; rfl))<|(jm)<|(jt)<|(j0)<|(Q0)<|(jt)<|(gx) ?_
 refine wM (q := 1) rfl rfl rfl  ?_
 refine (Au (Nat.mod_eq_of_lt (show n + 1 < 18446744073709551616 by omega)))<|(Qc)<|(j8)<|(gc)<|(gc)<|(ge)<|(gh)<|(Qg)<|(Qf 1)<|(Qv 1 0)<|(gx) ?_
 refine (Ca (z00 n (by omega)))<|(gb) ?_
 refine (Ca hE)<|(gi)<|(ja)<|(QN)<|(Qat)<|(gv)<|(g4) ?_
 refine zA (cells 34 [pV (.bool false), pI .u8 32 (fun _ => 0), pV (.int .u64 0)]) (Ub 33 rfl) (Uu 33 rfl) vM rfl (by kernel_rfl) rfl ?_
 refine (Qm)<|(jk) ?_
 exact ⟨_, _, _, rfl, yb 1, yt, yt⟩
theorem z1l (k : NN) (n : Nat) (va vt : Value) (hn : n < 18446744073709551615) (out : LN) (hm : out.length ≤ maxLen) (hE : Fq G [] 99 #[.agg (arr .u8 32 k), .agg (arr .u8 12 (wb n)), va, vt] (R2 5 out)) : Fq G [] 55 #[.bool false, CV true k n, va, vt] (fun v l1 nw => l1 = [] ∧ ∃ v', v = .tuple #[CV true k (n + 1), v', ii 0] ∧ OwnS 5 1 v' out.length (out.map by8) nw) := by
 have hok : okC true k n = true := rfl
 refine QfO Tryz.func55 ?_
 refine (g4)<|(Qh 0) fun r1=>(QH 1) fun r2=>(g8)<|Qs<|(gd) ?_
 refine (Ca (vC true k n)) ?_
 refine (Ai (show (if okC true k n = true then 0 else 9) = 0 by rw [hok]; rfl))<|(jm)<|(jt)<|(j0)<|(Q0)<|(jt)<|(gx) ?_
 refine wM (q := 1) rfl rfl rfl  ?_
 refine (Au (Nat.mod_eq_of_lt (show n + 1 < 18446744073709551616 by omega)))<|(Qc)<|(j8)<|(gc)<|(gc)<|(ge)<|(gh)<|(Qq ⟨[], 4, [], none, none⟩)<|(Qf 1)<|(Qv 1 0)<|(gx) ?_
 refine (Ca (z00 n (by omega)))<|(gb) ?_
 refine zG 2 (fun v => .tuple #[v, ii 0]) rfl rfl (Un 99) ze hE hm (by rw [List.length_map, Nat.mul_one]) rfl rfl fun v5_1 oz5_1 ho5_1 => ?_
 refine (gi)<|(ja)<|(QN) ?_
 refine z6 (congrArg Value.bool (decide_eq_false (fun h => h rfl))) ?_
 refine (go)<|(g4)<|(Qf 1)<|(Qv 1 0)<|(gx) ?_
 refine wM (q := 1) rfl rfl rfl  ?_
 refine (Au (Nat.mod_eq_of_lt (show n + 1 < 18446744073709551616 by omega))) ?_
 refine zA (cells 34 [pV (.bool true), pI .u8 32 k, pV (u (n + 1))]) (Ub 33 rfl) (Uu 33 rfl) vM rfl (by kernel_rfl) rfl ?_
 refine (Qm)<|(jk) ?_
 exact ⟨_, _, _, _, _, 2, rfl, yb 1, yt, yt, ho5_1, rfl⟩
theorem z78 (r i : Nat) (hr : r < 10) (hi : i < 16) : Fp G 156 #[ii r, ii i] (ii (sig r i)) := by
 obtain ⟨o1, o2, o3, o4⟩ := zgb (16 * r + i) (by omega)
 obtain ⟨c, hc⟩ : ∃ c, c = z3U.getD (16 * r + i) 0 := ⟨_, rfl⟩
 rw [← hc] at o1 o2 o3 o4
 refine Qf1 Tryz.func156 ?_
 refine (gc)<|(g6)<|(Q7 16)<|(Qm)<|(Q3) ?_
 refine Zi (l := [48, 49, 50, 51, 52, 53, 54, 55, 56, 57, 97, 98, 99, 100, 101, 102, 101, 97, 52, 56, 57, 102, 100, 54, 49, 99, 48, 50, 98, 55, 53, 51, 98, 56, 99, 48, 53, 50, 102, 100, 97, 101, 51, 54, 55, 49, 57, 52, 55, 57, 51, 49, 100, 99, 98, 101, 50, 54, 53, 97, 52, 48, 102, 56, 57, 48, 53, 55, 50, 52, 97, 102, 101, 49, 98, 99, 54, 56, 51, 100, 50, 99, 54, 97, 48, 98, 56, 51, 52, 100, 55, 53, 102, 101, 49, 57, 99, 53, 49, 102, 101, 100, 52, 97, 48, 55, 54, 51, 57, 50, 56, 98, 100, 98, 55, 101, 99, 49, 51, 57, 53, 48, 102, 52, 56, 54, 50, 97, 54, 102, 101, 57, 98, 51, 48, 56, 99, 50, 100, 55, 49, 52, 97, 53, 97, 50, 56, 52, 55, 54, 49, 53, 102, 98, 57, 101, 51, 99, 100, 48]) (Uu 9) rfl rfl o1 o2 rfl ?_
 refine (g3)<|(ge)<|(QE)<|Qn ?_
 refine (Qcd) (fun hc0=>?_) fun hc0=>?_
 ·refine Qs<|Qp<|(Qm) ?_
  refine z3a (q := 97) rfl rfl rfl (by omega) ?_
  refine z6 (congrArg by8 (show (c + 256 - 97) % 256 = c - 97 by omega)) ?_
  refine (Qci)<|(Q2 10) ?_
  refine (Ai (o3 (by omega)))<|(gt) ?_
  exact ⟨_, rfl, yt⟩
 ·refine Qk<|Qs<|Qp<|(Qm) ?_
  refine z3a (q := 48) rfl rfl rfl (by omega) ?_
  refine z6 (congrArg by8 (show (c + 256 - 48) % 256 = c - 48 by have := o4 (by omega); omega)) ?_
  refine (Qci) ?_
  refine (Ai (o4 (by omega)).2)<|(gt) ?_
  exact ⟨_, rfl, yt⟩
theorem Vy (rb r i : Nat) (b : LN) (hb : By b) (hl : b.length = 64) (hr : r < 10) (hi : i < 16) : Fp [⟨rb, #[sv b], 9⟩] 155 #[ii r, ii i, ptr rb] (uw (wrd b (sig r i))) := by
 have hsg := wK r i
 refine Qf1 Tryz.func155 ?_
 refine (gc)<|(g6)<|(Qm) ?_
 refine (Ca (z78 r i hr hi))<|(j3) ?_
 refine yl (i := 0) (Uu 9) rfl rfl rfl rfl rfl ?_
 refine (Qm)<|(Q7 4)<|(Qm)<|(Q7 4)<|(Q2 4) ?_
 refine yn (4 * sig r i) (4 * sig r i + 4) (Uu 9) rfl rfl rfl ⟨_, rfl⟩ ⟨_, rfl⟩ (by omega) (by omega) rfl ?_
 refine z6 (congrArg (fun z => sv ((b.drop (4 * sig r i)).take z)) (show 4 * sig r i + 4 - 4 * sig r i = 4 by omega)) ?_
 refine (Ca (xI _ (z64 b (sig r i)) (z8T hb (sig r i)))) ?_
 refine za6 (Uu 31) (Uu 109) rfl rfl rfl (zfz hb (sig r i)) ?_
 refine (gt) ?_
 exact ⟨_, rfl, yt⟩
theorem zci (p : Nat) (hp : p ≤ 1) (f : NN) : Fp G 158 #[.agg (arr .u32 16 f), ii p] (.agg (arr .u32 16 (shp p f))) := by
 refine Qf1 Tryz.func158 ?_
 refine (g4)<|(Qh 0) fun r1=>(QH 1) fun r2=>(gj)<|(QH 2) fun r3=>Qn<|(ji) ?_
 refine QzK [(1, _), (2, _), (4, _), (5, _)] [(0, _), (1, _)] (fun kk E m => ∃ (k : Nat) (s : Nat → Nat), kk = 4 - k ∧ E = [(8, ii k)] ∧ m = [(2, some ⟨r3, arr .u32 16 s, 199⟩)] ∧ (k ≤ 4) ∧ (∀ t, t < 4 * k → s t = shp p f t)) ⟨0, fun _ => 0, rfl, rfl, rfl, by omega, fun t ht => absurd ht (Nat.not_lt_zero t)⟩ ⟨rfl, rfl, rfl, rfl, rfl, trivial⟩ ⟨rfl, rfl, rfl, trivial⟩ ?_
 rintro kk E m ⟨k, s, rfl, rfl, rfl, hf0_0, hf0_1⟩
 simp only [zq, zx]
 refine (gq) ?_
 refine (Qcd) (fun hc0=>?_) fun hc0=>?_
 ·have hc0 : k < 4 := by omega
  refine (jr)<|(gm)<|Qn<|Qb ?_
  refine QzK [(1, _), (2, _), (4, _), (5, _), (6, _), (8, _)] [(0, _), (1, _)] (fun kk E m => ∃ (j : Nat) (s2 : Nat → Nat), kk = 4 - j ∧ E = [(11, ii j)] ∧ m = [(2, some ⟨r3, arr .u32 16 s2, 199⟩)] ∧ (j ≤ 4) ∧ (∀ t, t < 4 * k + j → s2 t = shp p f t)) ⟨0, s, rfl, rfl, rfl, by omega, hf0_1⟩ ⟨rfl, rfl, rfl, rfl, rfl, rfl, rfl, trivial⟩ ⟨rfl, rfl, rfl, trivial⟩ ?_
  rintro kk E m ⟨j, s2, rfl, rfl, rfl, hf1_0, hf1_1⟩
  simp only [zq, zx]
  refine (gq) ?_
  refine (Qcd) (fun hc1=>?_) fun hc1=>?_
  ·have hc1 : j < 4 := by omega
   refine (jr)<|(g3)<|(Qg)<|(gb)<|(gb)<|(Q2 4)<|(gb) ?_
   have hpk : p * k < 4 := by rcases (by omega : p = 0 ∨ p = 1) with rfl | rfl <;> omega
   refine VL rfl rfl rfl (by omega) ?_
   refine (Q3)<|(Q4 4)<|(QB (4 * k))<|(QB (4 * k + (j + 4 + p * k) % 4))<|(Q1 0)<|(QB (4 * k))<|(QB (4 * k + j))<|(Qu 2)<|(jc) ?_
   refine QzL ⟨j + 1, upd s2 (4 * k + j) _, rfl, rfl, rfl, by omega, z8X (shp p) f s2 (zkF p f (by omega)) hf1_1⟩ ⟨rfl, rfl, rfl, rfl, rfl, rfl, rfl, trivial⟩ ⟨rfl, rfl, rfl, trivial⟩ ?_
   omega
  ·have hz1 : j = 4 := by omega
   subst hz1
   refine Qe<|(gl) ?_
   refine QzL ⟨k + 1, s2, rfl, rfl, rfl, by omega, by rw [show 4 * (k + 1) = 4 * k + 4 by omega]; exact hf1_1⟩ ⟨rfl, rfl, rfl, rfl, rfl, trivial⟩ ⟨rfl, rfl, rfl, trivial⟩ ?_
   omega
 ·have hz0 : k = 4 := by omega
  subst hz0
  refine (jo)<|(Qd 2)<|(j4)<|Qr ?_
  rw [← zh hf0_1]
  exact ⟨_, rfl, ya 1⟩
theorem zeF (p : Nat) (hp : p ≤ 1) (f : NN) : Fp G 158 #[.agg (arr .u32 16 f), .int .i64 (-(p : Int))] (.agg (arr .u32 16 (shn p f))) := by
 refine Qf1 Tryz.func158 ?_
 refine (g4)<|(Qh 0) fun r1=>(QH 1) fun r2=>(gj)<|(QH 2) fun r3=>Qn<|(ji) ?_
 refine QzK [(1, _), (2, _), (4, _), (5, _)] [(0, _), (1, _)] (fun kk E m => ∃ (k : Nat) (s : Nat → Nat), kk = 4 - k ∧ E = [(8, ii k)] ∧ m = [(2, some ⟨r3, arr .u32 16 s, 199⟩)] ∧ (k ≤ 4) ∧ (∀ t, t < 4 * k → s t = shn p f t)) ⟨0, fun _ => 0, rfl, rfl, rfl, by omega, fun t ht => absurd ht (Nat.not_lt_zero t)⟩ ⟨rfl, rfl, rfl, rfl, rfl, trivial⟩ ⟨rfl, rfl, rfl, trivial⟩ ?_
 rintro kk E m ⟨k, s, rfl, rfl, rfl, hf0_0, hf0_1⟩
 simp only [zq, zx]
 refine (gq) ?_
 refine (Qcd) (fun hc0=>?_) fun hc0=>?_
 ·have hc0 : k < 4 := by omega
  refine (jr)<|(gm)<|Qn<|Qb ?_
  refine QzK [(1, _), (2, _), (4, _), (5, _), (6, _), (8, _)] [(0, _), (1, _)] (fun kk E m => ∃ (j : Nat) (s2 : Nat → Nat), kk = 4 - j ∧ E = [(11, ii j)] ∧ m = [(2, some ⟨r3, arr .u32 16 s2, 199⟩)] ∧ (j ≤ 4) ∧ (∀ t, t < 4 * k + j → s2 t = shn p f t)) ⟨0, s, rfl, rfl, rfl, by omega, hf0_1⟩ ⟨rfl, rfl, rfl, rfl, rfl, rfl, rfl, trivial⟩ ⟨rfl, rfl, rfl, trivial⟩ ?_
  rintro kk E m ⟨j, s2, rfl, rfl, rfl, hf1_0, hf1_1⟩
  simp only [zq, zx]
  refine (gq) ?_
  refine (Qcd) (fun hc1=>?_) fun hc1=>?_
  ·have hc1 : j < 4 := by omega
   refine (jr)<|(g3)<|(Qg)<|(gb)<|(gb)<|(Q2 4)<|(gb) ?_
   have hpk : p * k < 4 := by rcases (by omega : p = 0 ∨ p = 1) with rfl | rfl <;> omega
   have hpk : p * k < 4 := by rcases (by omega : p = 0 ∨ p = 1) with rfl | rfl <;> omega
   have hpz : (-(p : Int)) * ((k : Nat) : Int) = -((p * k : Nat) : Int) := by rw [Int.neg_mul, Int.natCast_mul]
   refine z8g rfl rfl rfl (by omega) (by omega) ?_
   refine z6 (congrArg (Value.int .i64) hpz) ?_
   refine z9g rfl rfl rfl (by omega) (by omega) ?_
   refine z6 (congrArg (Value.int .i64) (show ((j + 4 : Nat) : Int) + -((p * k : Nat) : Int) = ((j + 4 - p * k : Nat) : Int) by omega)) ?_
   refine (Q4 4)<|(QB (4 * k))<|(QB (4 * k + (j + 4 - p * k) % 4))<|(Q1 0)<|(QB (4 * k))<|(QB (4 * k + j))<|(Qu 2)<|(jc) ?_
   refine QzL ⟨j + 1, upd s2 (4 * k + j) _, rfl, rfl, rfl, by omega, z8X (shn p) f s2 (zkY p f (by omega)) hf1_1⟩ ⟨rfl, rfl, rfl, rfl, rfl, rfl, rfl, trivial⟩ ⟨rfl, rfl, rfl, trivial⟩ ?_
   omega
  ·have hz1 : j = 4 := by omega
   subst hz1
   refine Qe<|(gl) ?_
   refine QzL ⟨k + 1, s2, rfl, rfl, rfl, by omega, by rw [show 4 * (k + 1) = 4 * k + 4 by omega]; exact hf1_1⟩ ⟨rfl, rfl, rfl, rfl, rfl, trivial⟩ ⟨rfl, rfl, rfl, trivial⟩ ?_
   omega
 ·have hz0 : k = 4 := by omega
  subst hz0
  refine (jo)<|(Qd 2)<|(j4)<|Qr ?_
  rw [← zh hf0_1]
  exact ⟨_, rfl, ya 1⟩
theorem z1t (h : NN) (b : LN) (many : Nat) (hb : By b) (hl : b.length = 64) : Fp ((⟨1, arr .u32 8 ivf, 110⟩ : Blk) :: G) 120 #[.agg (arr .u32 8 h), sv b, ii many, .bool true] (.agg (arr .u32 8 (sqz h b many true))) := by
 refine Qf1 Tryz.func120 ?_
 refine (g4)<|(Qh 0) fun r1=>(Qh 1) fun r2=>(QH 2) fun r3=>(gj)<|(QH 3) fun r4=>Qn<|(ji) ?_
 refine QzK [(2, _), (3, _), (4, _), (5, _), (8, _), (9, _)] [(0, _), (1, _), (2, _)] (fun kk E m => ∃ (i : Nat) (s : Nat → Nat), kk = 8 - i ∧ E = [(18, ii i)] ∧ m = [(3, some ⟨r4, arr .u32 16 s, 199⟩)] ∧ (i ≤ 8) ∧ (∀ t, t < 16 → s t = if t % 8 < i then w00 h t else 0)) ⟨0, fun _ => 0, rfl, rfl, rfl, by omega, fun t _ => by rw [if_neg (by omega)]⟩ ⟨rfl, rfl, rfl, rfl, rfl, rfl, rfl, trivial⟩ ⟨rfl, rfl, rfl, rfl, trivial⟩ ?_
 rintro kk E m ⟨i, s, rfl, rfl, rfl, hf0_0, hf0_1⟩
 simp only [zq, zx]
 refine (gq) ?_
 refine (Qcd) (fun hc0=>?_) fun hc0=>?_
 ·have hc0 : i < 8 := by omega
  refine (jr)<|(g3)<|(Qq ⟨[r4], 1, [], none, none⟩)<|(Qm)<|(Q5 4)<|(Qm)<|(Q4 4)<|(Qm)<|(Q5 4) ?_
  refine y3 (p := 2) rfl rfl rfl (by omega) ?_
  refine (Qm)<|(Q4 4)<|(Qm)<|(Qi) ?_
  refine y7 (i := 0) (Uu 109) rfl rfl rfl (zO (by omega)) rfl ⟨[3], rfl, rfl, trivial⟩ ?_
  refine (Qm)<|(Qi) ?_
  refine yl (i := 0) (Uu 109) rfl rfl rfl (zO (by omega)) rfl ?_
  refine (QB (4 * (i / 4)))<|(QB (i)) ?_
  refine xT (i := 3) (Uz 109) rfl rfl rfl (by omega) (.inr (by simp)) ?_
  refine (QB (4 * (2 + i / 4)))<|(QB (8 + i)) ?_
  refine xT (i := 3) (Uz 109) rfl rfl rfl (by omega) (.inr (by simp)) ?_
  refine (jc) ?_
  refine QzL ⟨i + 1, upd (upd s i _) (8 + i) _, rfl, rfl, rfl, by omega, XR (by omega) hf0_1⟩ ⟨rfl, rfl, rfl, rfl, rfl, rfl, rfl, trivial⟩ ⟨rfl, rfl, rfl, rfl, trivial⟩ ?_
  omega
 ·have hz0 : i = 8 := by omega
  subst hz0
  refine (jo)<|(QA 12 3)<|(QA 12 0)<|(jl)<|(Qcw)<|(Qxw)<|(QA 12 3)<|(QA 12 0)<|(Qu 3)<|Qn<|(ge)<|(gv)<|Qp<|(QA 12 3)<|(QA 14 2)<|(Q1 3) ?_
  refine z2A rfl rfl ?_
  refine (QA 12 3)<|(QA 14 2)<|(Qu 3)<|(gj)<|(QY)<|(g3)<|(ji) ?_
  refine QzK [(2, _), (3, _), (4, _), (5, _), (8, _), (9, _), (11, _), (18, _)] [(0, _), (1, _), (2, _)] (fun kk E m => ∃ (r : Nat), kk = 10 - r ∧ E = [(57, ii r)] ∧ m = [(3, some ⟨r4, arr .u32 16 (brs b (w0 h many true) r), 199⟩)] ∧ (r ≤ 10)) ⟨0, rfl, rfl, rfl, by omega⟩ ⟨rfl, rfl, rfl, rfl, rfl, rfl, rfl, rfl, rfl, trivial⟩ ⟨(congrArg (fun c => some (⟨r4, c, 199⟩ : Blk)) (zh (fun t ht => (zfU hf0_1 t ht).trans (congrFun (z5T b (w0 h many true)) t)))), rfl, rfl, rfl, trivial⟩ ?_
  rintro kk E m ⟨r, rfl, rfl, rfl, hf1_0⟩
  simp only [zq, zx]
  refine (gq) ?_
  refine (Qcd) (fun hc2=>?_) fun hc2=>?_
  ·have hc2 : r < 10 := by omega
   refine (jr)<|(gm)<|Qn<|Qb ?_
   refine QzK [(2, _), (3, _), (4, _), (5, _), (8, _), (9, _), (11, _), (12, _), (18, _), (57, _)] [(0, _), (1, _), (2, _)] (fun kk E m => ∃ (p : Nat), kk = 2 - p ∧ E = [(60, ii p)] ∧ m = [(3, some ⟨r4, arr .u32 16 (xM b r (brs b (w0 h many true) r) p), 199⟩)] ∧ (p ≤ 2)) ⟨0, rfl, rfl, rfl, by omega⟩ ⟨rfl, rfl, rfl, rfl, rfl, rfl, rfl, rfl, rfl, rfl, rfl, trivial⟩ ⟨(xW (VW b r (brs b (w0 h many true) r))), rfl, rfl, rfl, trivial⟩ ?_
   rintro kk E m ⟨p, rfl, rfl, rfl, hf2_0⟩
   simp only [zq, zx]
   refine (gq) ?_
   refine (Qcd) (fun hc3=>?_) fun hc3=>?_
   ·have hc3 : p < 2 := by omega
    refine (jr)<|(j3)<|(Qd 3)<|(Qm) ?_
    refine zd rfl (Un 158) (zci p (by omega) _) rfl rfl ?_
    refine (Qt 3)<|Qn<|(ji) ?_
    refine QzK [(2, _), (3, _), (4, _), (5, _), (8, _), (9, _), (11, _), (12, _), (13, _), (18, _), (57, _), (60, _)] [(0, _), (1, _), (2, _)] (fun kk E m => ∃ (c : Nat) (s : Nat → Nat), kk = 4 - c ∧ E = [(66, ii c)] ∧ m = [(3, some ⟨r4, arr .u32 16 s, 199⟩)] ∧ (c ≤ 4) ∧ (∀ t, t < 16 → s t = if t % 4 < c then brn (xw b r p) (yw b r p) (shp p (xM b r (brs b (w0 h many true) r) p)) t else (shp p (xM b r (brs b (w0 h many true) r) p)) t)) ⟨0, (shp p (xM b r (brs b (w0 h many true) r) p)), rfl, rfl, rfl, by omega, fun t _ => by rw [if_neg (by omega)]⟩ ⟨rfl, rfl, rfl, rfl, rfl, rfl, rfl, rfl, rfl, rfl, rfl, rfl, rfl, trivial⟩ ⟨rfl, rfl, rfl, rfl, trivial⟩ ?_
    rintro kk E m ⟨c, s, rfl, rfl, rfl, hf3_0, hf3_1⟩
    simp only [zq, zx]
    refine (gq) ?_
    refine (Qcd) (fun hc4=>?_) fun hc4=>?_
    ·have hc4 : c < 4 := by omega
     refine (jr)<|(gm)<|(gb)<|(Q7 8)<|(Qm)<|(Q7 2)<|(Q3) ?_
     refine vj [⟨r2, #[sv b], 9⟩] rfl rfl (Un 155) ⟨⟨1, rfl⟩, trivial⟩ (Vy r2 r (8 * p + 2 * c) b hb hl (by omega) (by omega)) rfl rfl rfl ?_
     refine (gb)<|(Qm)<|(Q7 8)<|(Qm)<|(Q7 2)<|(Q3)<|(Q2 1) ?_
     refine vj [⟨r2, #[sv b], 9⟩] rfl rfl (Un 155) ⟨⟨1, rfl⟩, trivial⟩ (Vy r2 r (8 * p + 2 * c + 1) b hb hl (by omega) (by omega)) rfl rfl rfl ?_
     refine (g8)<|(gr)<|(Qm)<|(QA 0 0)<|(Qi)<|(jl)<|(QA 4 1)<|(QB (4 + c))<|(jl)<|(Qaw)<|(Qaw) ?_
     refine yX fun q1 hq1 => ?_
     refine (QA 0 0)<|(Qi)<|(Qu 3)<|(jf)<|(gb)<|(QA 12 3)<|(QB (12 + c))<|(jl)<|(QA 0 0)<|(Qi)<|(Q1 3)<|(Qxw) ?_
     refine zd rfl (Un 159) (w7 _ _ (by decide)) rfl rfl ?_
     refine yX fun q2 hq2 => ?_
     refine (QA 12 3)<|(QB (12 + c))<|(Qu 3)<|(jf)<|(Qm)<|(QA 8 2)<|(QB (8 + c))<|(jl)<|(QA 12 3)<|(QB (12 + c))<|(Q1 3)<|(Qaw) ?_
     refine yX fun q3 hq3 => ?_
     refine (QA 8 2)<|(QB (8 + c))<|(Qu 3)<|(jf)<|(gb)<|(QA 4 1)<|(QB (4 + c))<|(jl)<|(QA 8 2)<|(QB (8 + c))<|(Q1 3)<|(Qxw) ?_
     refine zd rfl (Un 159) (w7 _ _ (by decide)) rfl rfl ?_
     refine yX fun q4 hq4 => ?_
     refine (QA 4 1)<|(QB (4 + c))<|(Qu 3)<|(jf)<|(Qm)<|(QA 0 0)<|(Qi)<|(jl)<|(QA 4 1)<|(QB (4 + c))<|(jl)<|(Qaw)<|(Qaw) ?_
     refine yX fun q5 hq5 => ?_
     refine (QA 0 0)<|(Qi)<|(Qu 3)<|(jf)<|(gb)<|(QA 12 3)<|(QB (12 + c))<|(jl)<|(QA 0 0)<|(Qi)<|(Q1 3)<|(Qxw) ?_
     refine zd rfl (Un 159) (w7 _ _ (by decide)) rfl rfl ?_
     refine yX fun q6 hq6 => ?_
     refine (QA 12 3)<|(QB (12 + c))<|(Qu 3)<|(jf)<|(Qm)<|(QA 8 2)<|(QB (8 + c))<|(jl)<|(QA 12 3)<|(QB (12 + c))<|(Q1 3)<|(Qaw) ?_
     refine yX fun q7 hq7 => ?_
     refine (QA 8 2)<|(QB (8 + c))<|(Qu 3)<|Qn<|(Qg)<|(gb)<|(QA 4 1)<|(QB (4 + c))<|(jl)<|(QA 8 2)<|(QB (8 + c))<|(Q1 3)<|(Qxw) ?_
     refine zd rfl (Un 159) (w7 _ _ (by decide)) rfl rfl ?_
     refine yX fun q8 hq8 => ?_
     refine (QA 4 1)<|(QB (4 + c))<|(Qu 3)<|(jc) ?_
     refine QzL ⟨c + 1, upd (upd (upd (upd (upd (upd (upd (upd s c q1) (12 + c) q2) (8 + c) q3) (4 + c) q4) c q5) (12 + c) q6) (8 + c) q7) (4 + c) q8, rfl, rfl, rfl, by omega, W4 (by omega) hf3_1 _ rfl (z8I (by omega) hq1 hq2 hq3 hq4 hq5 hq6 hq7 hq8)⟩ ⟨rfl, rfl, rfl, rfl, rfl, rfl, rfl, rfl, rfl, rfl, rfl, rfl, rfl, trivial⟩ ⟨rfl, rfl, rfl, rfl, trivial⟩ ?_
     omega
    ·have hz3 : c = 4 := by omega
     refine Qe<|Qp<|(Qd 3) ?_
     refine (Aa (fun t ht => (hf3_1 t ht).trans (if_pos (by omega))))<|(Qm) ?_
     refine z99 rfl rfl (by omega) (by omega) ?_
     refine zd rfl (Un 158) (zeF p (by omega) _) rfl rfl ?_
     refine (Qt 3)<|(jc) ?_
     refine QzL ⟨p + 1, rfl, rfl, rfl, by omega⟩ ⟨rfl, rfl, rfl, rfl, rfl, rfl, rfl, rfl, rfl, rfl, rfl, trivial⟩ ⟨(xW (z0n b r (brs b (w0 h many true) r) p)), rfl, rfl, rfl, trivial⟩ ?_
     omega
   ·have hz2 : p = 2 := by omega
    refine Qe<|(gl) ?_
    refine QzL ⟨r + 1, rfl, rfl, rfl, by omega⟩ ⟨rfl, rfl, rfl, rfl, rfl, rfl, rfl, rfl, rfl, trivial⟩ ⟨(xW ((congrArg (xM b r (brs b (w0 h many true) r)) hz2).trans (z4E b (w0 h many true) r))), rfl, rfl, rfl, trivial⟩ ?_
    omega
  ·have hz1 : r = 10 := by omega
   refine Qe<|(ji) ?_
   refine QzK [(2, _), (3, _), (4, _), (5, _), (8, _), (9, _), (11, _), (18, _), (57, _)] [(1, _), (2, _), (3, _)] (fun kk E m => ∃ (q : Nat) (s2 : Nat → Nat), kk = 8 - q ∧ E = [(193, ii q)] ∧ m = [(0, some ⟨r1, arr .u32 8 s2, 110⟩)] ∧ (q ≤ 8) ∧ (∀ t, t < 8 → s2 t = if t < q then sqz h b many true t else h t)) ⟨0, h, rfl, rfl, rfl, by omega, fun t _ => by rw [if_neg (by omega)]⟩ ⟨rfl, rfl, rfl, rfl, rfl, rfl, rfl, rfl, rfl, rfl, trivial⟩ ⟨rfl, rfl, rfl, rfl, trivial⟩ ?_
   rintro kk E m ⟨q, s2, rfl, rfl, rfl, hf4_0, hf4_1⟩
   simp only [zq, zx]
   refine (gq) ?_
   refine (Qcd) (fun hc5=>?_) fun hc5=>?_
   ·have hc5 : q < 8 := by omega
    refine (jr)<|(g3)<|(Qg)<|(Qm)<|(gu)<|(Qm)<|(Q5 4)<|(Qm)<|(Q4 4)<|(QB (4 * (q / 4)))<|(QB (q))<|(jl)<|(Q5 4) ?_
    refine y3 (p := 2) rfl rfl rfl (by omega) ?_
    refine (Qm)<|(Q4 4)<|(QB (4 * (2 + q / 4)))<|(QB (8 + q))<|(Q1 3)<|(Qxw)<|(Qxw)<|(jj)<|(jc) ?_
    refine QzL ⟨q + 1, upd s2 q _, rfl, rfl, rfl, by omega, VQ (by omega) (congrArg (brs b (w0 h many true)) hz1) hf4_1⟩ ⟨rfl, rfl, rfl, rfl, rfl, rfl, rfl, rfl, rfl, rfl, trivial⟩ ⟨rfl, rfl, rfl, rfl, trivial⟩ ?_
    omega
   ·have hz4 : q = 8 := by omega
    subst hz4
    refine (jo)<|(Qd 0)<|(Qt 2)<|Qn<|Qr ?_
    rw [← z8y hf4_1]
    exact ⟨_, rfl, ya 2⟩
theorem z1g (h : NN) (b : LN) (many : Nat) (hb : By b) (hl : b.length = 64) : Fp ((⟨1, arr .u32 8 ivf, 110⟩ : Blk) :: G) 120 #[.agg (arr .u32 8 h), sv b, ii many, .bool false] (.agg (arr .u32 8 (sqz h b many false))) := by
 refine Qf1 Tryz.func120 ?_
 refine (g4)<|(Qh 0) fun r1=>(Qh 1) fun r2=>(QH 2) fun r3=>(gj)<|(QH 3) fun r4=>Qn<|(ji) ?_
 refine QzK [(2, _), (3, _), (4, _), (5, _), (8, _), (9, _)] [(0, _), (1, _), (2, _)] (fun kk E m => ∃ (i : Nat) (s : Nat → Nat), kk = 8 - i ∧ E = [(18, ii i)] ∧ m = [(3, some ⟨r4, arr .u32 16 s, 199⟩)] ∧ (i ≤ 8) ∧ (∀ t, t < 16 → s t = if t % 8 < i then w00 h t else 0)) ⟨0, fun _ => 0, rfl, rfl, rfl, by omega, fun t _ => by rw [if_neg (by omega)]⟩ ⟨rfl, rfl, rfl, rfl, rfl, rfl, rfl, trivial⟩ ⟨rfl, rfl, rfl, rfl, trivial⟩ ?_
 rintro kk E m ⟨i, s, rfl, rfl, rfl, hf0_0, hf0_1⟩
 simp only [zq, zx]
 refine (gq) ?_
 refine (Qcd) (fun hc0=>?_) fun hc0=>?_
 ·have hc0 : i < 8 := by omega
  refine (jr)<|(g3)<|(Qq ⟨[r4], 1, [], none, none⟩)<|(Qm)<|(Q5 4)<|(Qm)<|(Q4 4)<|(Qm)<|(Q5 4) ?_
  refine y3 (p := 2) rfl rfl rfl (by omega) ?_
  refine (Qm)<|(Q4 4)<|(Qm)<|(Qi) ?_
  refine y7 (i := 0) (Uu 109) rfl rfl rfl (zO (by omega)) rfl ⟨[3], rfl, rfl, trivial⟩ ?_
  refine (Qm)<|(Qi) ?_
  refine yl (i := 0) (Uu 109) rfl rfl rfl (zO (by omega)) rfl ?_
  refine (QB (4 * (i / 4)))<|(QB (i)) ?_
  refine xT (i := 3) (Uz 109) rfl rfl rfl (by omega) (.inr (by simp)) ?_
  refine (QB (4 * (2 + i / 4)))<|(QB (8 + i)) ?_
  refine xT (i := 3) (Uz 109) rfl rfl rfl (by omega) (.inr (by simp)) ?_
  refine (jc) ?_
  refine QzL ⟨i + 1, upd (upd s i _) (8 + i) _, rfl, rfl, rfl, by omega, XR (by omega) hf0_1⟩ ⟨rfl, rfl, rfl, rfl, rfl, rfl, rfl, trivial⟩ ⟨rfl, rfl, rfl, rfl, trivial⟩ ?_
  omega
 ·have hz0 : i = 8 := by omega
  subst hz0
  refine (jo)<|(QA 12 3)<|(QA 12 0)<|(jl)<|(Qcw)<|(Qxw)<|(QA 12 3)<|(QA 12 0)<|(Qu 3)<|Qn<|(ge)<|(go)<|(g4)<|(QY)<|(g3)<|(ji) ?_
  refine QzK [(2, _), (3, _), (4, _), (5, _), (8, _), (9, _), (11, _), (18, _)] [(0, _), (1, _), (2, _)] (fun kk E m => ∃ (r : Nat), kk = 10 - r ∧ E = [(57, ii r)] ∧ m = [(3, some ⟨r4, arr .u32 16 (brs b (w0 h many false) r), 199⟩)] ∧ (r ≤ 10)) ⟨0, rfl, rfl, rfl, by omega⟩ ⟨rfl, rfl, rfl, rfl, rfl, rfl, rfl, rfl, rfl, trivial⟩ ⟨(congrArg (fun c => some (⟨r4, c, 199⟩ : Blk)) (zh (fun t ht => (z4Y hf0_1 t ht).trans (congrFun (z5T b (w0 h many false)) t)))), rfl, rfl, rfl, trivial⟩ ?_
  rintro kk E m ⟨r, rfl, rfl, rfl, hf1_0⟩
  simp only [zq, zx]
  refine (gq) ?_
  refine (Qcd) (fun hc2=>?_) fun hc2=>?_
  ·have hc2 : r < 10 := by omega
   refine (jr)<|(gm)<|Qn<|Qb ?_
   refine QzK [(2, _), (3, _), (4, _), (5, _), (8, _), (9, _), (11, _), (12, _), (18, _), (57, _)] [(0, _), (1, _), (2, _)] (fun kk E m => ∃ (p : Nat), kk = 2 - p ∧ E = [(60, ii p)] ∧ m = [(3, some ⟨r4, arr .u32 16 (xM b r (brs b (w0 h many false) r) p), 199⟩)] ∧ (p ≤ 2)) ⟨0, rfl, rfl, rfl, by omega⟩ ⟨rfl, rfl, rfl, rfl, rfl, rfl, rfl, rfl, rfl, rfl, rfl, trivial⟩ ⟨(xW (VW b r (brs b (w0 h many false) r))), rfl, rfl, rfl, trivial⟩ ?_
   rintro kk E m ⟨p, rfl, rfl, rfl, hf2_0⟩
   simp only [zq, zx]
   refine (gq) ?_
   refine (Qcd) (fun hc3=>?_) fun hc3=>?_
   ·have hc3 : p < 2 := by omega
    refine (jr)<|(j3)<|(Qd 3)<|(Qm) ?_
    refine zd rfl (Un 158) (zci p (by omega) _) rfl rfl ?_
    refine (Qt 3)<|Qn<|(ji) ?_
    refine QzK [(2, _), (3, _), (4, _), (5, _), (8, _), (9, _), (11, _), (12, _), (13, _), (18, _), (57, _), (60, _)] [(0, _), (1, _), (2, _)] (fun kk E m => ∃ (c : Nat) (s : Nat → Nat), kk = 4 - c ∧ E = [(66, ii c)] ∧ m = [(3, some ⟨r4, arr .u32 16 s, 199⟩)] ∧ (c ≤ 4) ∧ (∀ t, t < 16 → s t = if t % 4 < c then brn (xw b r p) (yw b r p) (shp p (xM b r (brs b (w0 h many false) r) p)) t else (shp p (xM b r (brs b (w0 h many false) r) p)) t)) ⟨0, (shp p (xM b r (brs b (w0 h many false) r) p)), rfl, rfl, rfl, by omega, fun t _ => by rw [if_neg (by omega)]⟩ ⟨rfl, rfl, rfl, rfl, rfl, rfl, rfl, rfl, rfl, rfl, rfl, rfl, rfl, trivial⟩ ⟨rfl, rfl, rfl, rfl, trivial⟩ ?_
    rintro kk E m ⟨c, s, rfl, rfl, rfl, hf3_0, hf3_1⟩
    simp only [zq, zx]
    refine (gq) ?_
    refine (Qcd) (fun hc4=>?_) fun hc4=>?_
    ·have hc4 : c < 4 := by omega
     refine (jr)<|(gm)<|(gb)<|(Q7 8)<|(Qm)<|(Q7 2)<|(Q3) ?_
     refine vj [⟨r2, #[sv b], 9⟩] rfl rfl (Un 155) ⟨⟨1, rfl⟩, trivial⟩ (Vy r2 r (8 * p + 2 * c) b hb hl (by omega) (by omega)) rfl rfl rfl ?_
     refine (gb)<|(Qm)<|(Q7 8)<|(Qm)<|(Q7 2)<|(Q3)<|(Q2 1) ?_
     refine vj [⟨r2, #[sv b], 9⟩] rfl rfl (Un 155) ⟨⟨1, rfl⟩, trivial⟩ (Vy r2 r (8 * p + 2 * c + 1) b hb hl (by omega) (by omega)) rfl rfl rfl ?_
     refine (g8)<|(gr)<|(Qm)<|(QA 0 0)<|(Qi)<|(jl)<|(QA 4 1)<|(QB (4 + c))<|(jl)<|(Qaw)<|(Qaw) ?_
     refine yX fun q1 hq1 => ?_
     refine (QA 0 0)<|(Qi)<|(Qu 3)<|(jf)<|(gb)<|(QA 12 3)<|(QB (12 + c))<|(jl)<|(QA 0 0)<|(Qi)<|(Q1 3)<|(Qxw) ?_
     refine zd rfl (Un 159) (w7 _ _ (by decide)) rfl rfl ?_
     refine yX fun q2 hq2 => ?_
     refine (QA 12 3)<|(QB (12 + c))<|(Qu 3)<|(jf)<|(Qm)<|(QA 8 2)<|(QB (8 + c))<|(jl)<|(QA 12 3)<|(QB (12 + c))<|(Q1 3)<|(Qaw) ?_
     refine yX fun q3 hq3 => ?_
     refine (QA 8 2)<|(QB (8 + c))<|(Qu 3)<|(jf)<|(gb)<|(QA 4 1)<|(QB (4 + c))<|(jl)<|(QA 8 2)<|(QB (8 + c))<|(Q1 3)<|(Qxw) ?_
     refine zd rfl (Un 159) (w7 _ _ (by decide)) rfl rfl ?_
     refine yX fun q4 hq4 => ?_
     refine (QA 4 1)<|(QB (4 + c))<|(Qu 3)<|(jf)<|(Qm)<|(QA 0 0)<|(Qi)<|(jl)<|(QA 4 1)<|(QB (4 + c))<|(jl)<|(Qaw)<|(Qaw) ?_
     refine yX fun q5 hq5 => ?_
     refine (QA 0 0)<|(Qi)<|(Qu 3)<|(jf)<|(gb)<|(QA 12 3)<|(QB (12 + c))<|(jl)<|(QA 0 0)<|(Qi)<|(Q1 3)<|(Qxw) ?_
     refine zd rfl (Un 159) (w7 _ _ (by decide)) rfl rfl ?_
     refine yX fun q6 hq6 => ?_
     refine (QA 12 3)<|(QB (12 + c))<|(Qu 3)<|(jf)<|(Qm)<|(QA 8 2)<|(QB (8 + c))<|(jl)<|(QA 12 3)<|(QB (12 + c))<|(Q1 3)<|(Qaw) ?_
     refine yX fun q7 hq7 => ?_
     refine (QA 8 2)<|(QB (8 + c))<|(Qu 3)<|Qn<|(Qg)<|(gb)<|(QA 4 1)<|(QB (4 + c))<|(jl)<|(QA 8 2)<|(QB (8 + c))<|(Q1 3)<|(Qxw) ?_
     refine zd rfl (Un 159) (w7 _ _ (by decide)) rfl rfl ?_
     refine yX fun q8 hq8 => ?_
     refine (QA 4 1)<|(QB (4 + c))<|(Qu 3)<|(jc) ?_
     refine QzL ⟨c + 1, upd (upd (upd (upd (upd (upd (upd (upd s c q1) (12 + c) q2) (8 + c) q3) (4 + c) q4) c q5) (12 + c) q6) (8 + c) q7) (4 + c) q8, rfl, rfl, rfl, by omega, W4 (by omega) hf3_1 _ rfl (z8I (by omega) hq1 hq2 hq3 hq4 hq5 hq6 hq7 hq8)⟩ ⟨rfl, rfl, rfl, rfl, rfl, rfl, rfl, rfl, rfl, rfl, rfl, rfl, rfl, trivial⟩ ⟨rfl, rfl, rfl, rfl, trivial⟩ ?_
     omega
    ·have hz3 : c = 4 := by omega
     refine Qe<|Qp<|(Qd 3) ?_
     refine (Aa (fun t ht => (hf3_1 t ht).trans (if_pos (by omega))))<|(Qm) ?_
     refine z99 rfl rfl (by omega) (by omega) ?_
     refine zd rfl (Un 158) (zeF p (by omega) _) rfl rfl ?_
     refine (Qt 3)<|(jc) ?_
     refine QzL ⟨p + 1, rfl, rfl, rfl, by omega⟩ ⟨rfl, rfl, rfl, rfl, rfl, rfl, rfl, rfl, rfl, rfl, rfl, trivial⟩ ⟨(xW (z0n b r (brs b (w0 h many false) r) p)), rfl, rfl, rfl, trivial⟩ ?_
     omega
   ·have hz2 : p = 2 := by omega
    refine Qe<|(gl) ?_
    refine QzL ⟨r + 1, rfl, rfl, rfl, by omega⟩ ⟨rfl, rfl, rfl, rfl, rfl, rfl, rfl, rfl, rfl, trivial⟩ ⟨(xW ((congrArg (xM b r (brs b (w0 h many false) r)) hz2).trans (z4E b (w0 h many false) r))), rfl, rfl, rfl, trivial⟩ ?_
    omega
  ·have hz1 : r = 10 := by omega
   refine Qe<|(ji) ?_
   refine QzK [(2, _), (3, _), (4, _), (5, _), (8, _), (9, _), (11, _), (18, _), (57, _)] [(1, _), (2, _), (3, _)] (fun kk E m => ∃ (q : Nat) (s2 : Nat → Nat), kk = 8 - q ∧ E = [(193, ii q)] ∧ m = [(0, some ⟨r1, arr .u32 8 s2, 110⟩)] ∧ (q ≤ 8) ∧ (∀ t, t < 8 → s2 t = if t < q then sqz h b many false t else h t)) ⟨0, h, rfl, rfl, rfl, by omega, fun t _ => by rw [if_neg (by omega)]⟩ ⟨rfl, rfl, rfl, rfl, rfl, rfl, rfl, rfl, rfl, rfl, trivial⟩ ⟨rfl, rfl, rfl, rfl, trivial⟩ ?_
   rintro kk E m ⟨q, s2, rfl, rfl, rfl, hf4_0, hf4_1⟩
   simp only [zq, zx]
   refine (gq) ?_
   refine (Qcd) (fun hc5=>?_) fun hc5=>?_
   ·have hc5 : q < 8 := by omega
    refine (jr)<|(g3)<|(Qg)<|(Qm)<|(gu)<|(Qm)<|(Q5 4)<|(Qm)<|(Q4 4)<|(QB (4 * (q / 4)))<|(QB (q))<|(jl)<|(Q5 4) ?_
    refine y3 (p := 2) rfl rfl rfl (by omega) ?_
    refine (Qm)<|(Q4 4)<|(QB (4 * (2 + q / 4)))<|(QB (8 + q))<|(Q1 3)<|(Qxw)<|(Qxw)<|(jj)<|(jc) ?_
    refine QzL ⟨q + 1, upd s2 q _, rfl, rfl, rfl, by omega, VQ (by omega) (congrArg (brs b (w0 h many false)) hz1) hf4_1⟩ ⟨rfl, rfl, rfl, rfl, rfl, rfl, rfl, rfl, rfl, rfl, trivial⟩ ⟨rfl, rfl, rfl, rfl, trivial⟩ ?_
    omega
   ·have hz4 : q = 8 := by omega
    subst hz4
    refine (jo)<|(Qd 0)<|(Qt 2)<|Qn<|Qr ?_
    rw [← z8y hf4_1]
    exact ⟨_, rfl, ya 2⟩
theorem z1z : Fp ((⟨1, arr .u32 8 ivf, 110⟩ : Blk) :: G) 78 #[] (.agg (cells 74 [pI .u32 8 z1n, pI .u8 64 (fun _ => 0), pV (.int .i64 0), pV (.int .i64 0)])) := by
 refine Qf1 Tryz.func78 ?_
 refine (g4)<|(QH 0) fun r1=>(gj) ?_
 refine z4m (i := 0) (Uu 110) rfl (Uz 110) rfl rfl (z9 _ _ _) rfl ?_
 refine zA (cells 74 [pI .u32 8 ivf, pI .u8 64 (fun _ => 0), pV (.int .i64 0), pV (.int .i64 0)]) (Ub 113 rfl) (Uu 113 rfl) z33 rfl (by kernel_rfl) rfl ?_
 refine (QH 1) fun r2=>(QW 1)<|(gj)<|(Qf 0)<|(Qj 0)<|(QI 0 0 1) ?_
 refine z2P (q := 16842784) rfl rfl rfl  ?_
 refine (Qf 0)<|(Qj 0) ?_
 refine z97 (i := 1) 0 (0) (Uz 109) rfl rfl rfl rfl rfl (by decide) (by decide) (.inl rfl) ?_
 refine (gj)<|(QD 1) ?_
 refine (Av (Value.agg (cells 74 [pI .u32 8 z1n, pI .u8 64 (fun _ => 0), pV (.int .i64 0), pV (.int .i64 0)])))<|(QW 0)<|Qn<|Qr ?_
 exact ⟨_, rfl, yb 0⟩
theorem X7 (h d : NN) (n ln : Nat) (hn : n ≤ 64) (hl : ln ≤ 1073741824) : Fp G 119 #[.agg (cells 74 [pI .u32 8 h, pI .u8 64 d, pV (.int .i64 n), pV (.int .i64 ln)])] (.bool (!okB n ln d)) := by
 refine Qf1 Tryz.func119 ?_
 refine (g4)<|(Qh 0) fun r1=>(g3)<|(gs)<|(j1)<|(Ql)<|(Qaf)<|(g7)<|(Qf 72)<|(Qy)<|(QV 2 0)<|(Qy)<|(QG)<|(Qaf)<|(QF)<|(g7)<|(Qf 73)<|(Qy)<|(QV 3 0)<|(Qy)<|(Ql)<|(Qaf)<|(QF)<|(g7)<|(Qf 73)<|(Qy)<|(QV 3 0)<|(Qy)<|(QG)<|(Qaf)<|(QF)<|(go)<|(g4)<|(Qf 73)<|(QV 3 0)<|(Q4 64)<|(g3)<|Qs<|Qs ?_
 rcases (by omega : ln % 64 ≠ 0 ∨ (ln % 64 = 0 ∧ 0 < ln) ∨ (ln % 64 = 0 ∧ ¬ 0 < ln)) with hm | ⟨hm, hp⟩ | ⟨hm, hp⟩
 ·skip
  refine (je)<|(Qc)<|(Qaf)<|(Qm)<|(gw)<|(QF)<|(gh) ?_
  have hkx : nbl ln = ln % 64 := if_neg (by omega)
  refine Qk<|(gs)<|(Qf 8)<|(Qv 1 0)<|(Qm)<|Qn<|Qb ?_
  refine QzK [(1, _), (3, _), (35, _)] [(0, _)] (fun kk E m => ∃ (i : Nat), kk = 64 - i ∧ E = [(36, ii i)] ∧ m = [] ∧ (i ≤ 64) ∧ (∀ t, t < i → n ≤ t → d t = 0)) ⟨0, rfl, rfl, rfl, by omega, fun t ht => absurd ht (Nat.not_lt_zero t)⟩ ⟨rfl, rfl, rfl, rfl, trivial⟩ ⟨rfl, trivial⟩ ?_
  rintro kk E m ⟨i, rfl, rfl, rfl, hf0_0, hf0_1⟩
  simp only [zq, zx]
  refine (gq) ?_
  refine (Qcd) (fun hc2=>?_) fun hc2=>?_
  ·have hc2 : i < 64 := by omega
   refine (jr)<|(QX)<|(g8)<|Qs ?_
   rcases (by omega : ¬ n ≤ i ∨ (n ≤ i ∧ d i = 0) ∨ (n ≤ i ∧ d i ≠ 0)) with hz | ⟨hge, hz⟩ | ⟨hge, hne⟩
   ·skip
    refine (je)<|(j1)<|(QE)<|(Qaf)<|(Qm)<|(g5)<|(QF)<|(go)<|(gl) ?_
    refine QzL ⟨i + 1, rfl, rfl, rfl, by omega, fun t ht hnt => by rcases (by omega : t < i ∨ t = i) with h | rfl; exact hf0_1 t h hnt; first | exact hz | exact absurd hnt (by omega)⟩ ⟨rfl, rfl, rfl, rfl, trivial⟩ ⟨rfl, trivial⟩ ?_
    omega
   ·skip
    refine (je)<|(j1)<|(QE)<|(Qat)<|(gn)<|(QN)<|(Qaf)<|(QT)<|(go)<|(gl) ?_
    refine QzL ⟨i + 1, rfl, rfl, rfl, by omega, fun t ht hnt => by rcases (by omega : t < i ∨ t = i) with h | rfl; exact hf0_1 t h hnt; first | exact hz | exact absurd hnt (by omega)⟩ ⟨rfl, rfl, rfl, rfl, trivial⟩ ⟨rfl, trivial⟩ ?_
    omega
   ·skip
    refine (je)<|(j1)<|(QE)<|(Qat)<|(gn)<|(QN)<|(Qat)<|(QT)<|(gv)<|(gz) ?_
    first | rw [Ys (i := i) (by omega) hge hne] | rw [YM hf0_1 hkx]
    exact ⟨_, rfl, yt⟩
  ·have hz0 : i = 64 := by omega
   subst hz0
   refine (jo)<|(j1)<|(Qm)<|(QN)<|(gt) ?_
   first | rw [Ys (i := i) (by omega) hge hne] | rw [YM hf0_1 hkx]
   exact ⟨_, rfl, yt⟩
 ·skip
  refine (je)<|(Qc)<|(Qat)<|(g7)<|(Qf 73)<|(Qy)<|(QV 3 0)<|(Qy)<|(QG)<|(Qat)<|(QT)<|(gv) ?_
  have hkx : nbl ln = 64 := if_pos ⟨hm, hp⟩
  refine Qp<|(g3)<|(gs)<|(Qf 8)<|(Qv 1 0)<|(Qm)<|Qn<|Qb ?_
  refine QzK [(1, _), (3, _), (35, _)] [(0, _)] (fun kk E m => ∃ (i : Nat), kk = 64 - i ∧ E = [(36, ii i)] ∧ m = [] ∧ (i ≤ 64) ∧ (∀ t, t < i → n ≤ t → d t = 0)) ⟨0, rfl, rfl, rfl, by omega, fun t ht => absurd ht (Nat.not_lt_zero t)⟩ ⟨rfl, rfl, rfl, rfl, trivial⟩ ⟨rfl, trivial⟩ ?_
  rintro kk E m ⟨i, rfl, rfl, rfl, hf0_0, hf0_1⟩
  simp only [zq, zx]
  refine (gq) ?_
  refine (Qcd) (fun hc2=>?_) fun hc2=>?_
  ·have hc2 : i < 64 := by omega
   refine (jr)<|(QX)<|(g8)<|Qs ?_
   rcases (by omega : ¬ n ≤ i ∨ (n ≤ i ∧ d i = 0) ∨ (n ≤ i ∧ d i ≠ 0)) with hz | ⟨hge, hz⟩ | ⟨hge, hne⟩
   ·skip
    refine (je)<|(j1)<|(QE)<|(Qaf)<|(Qm)<|(g5)<|(QF)<|(go)<|(gl) ?_
    refine QzL ⟨i + 1, rfl, rfl, rfl, by omega, fun t ht hnt => by rcases (by omega : t < i ∨ t = i) with h | rfl; exact hf0_1 t h hnt; first | exact hz | exact absurd hnt (by omega)⟩ ⟨rfl, rfl, rfl, rfl, trivial⟩ ⟨rfl, trivial⟩ ?_
    omega
   ·skip
    refine (je)<|(j1)<|(QE)<|(Qat)<|(gn)<|(QN)<|(Qaf)<|(QT)<|(go)<|(gl) ?_
    refine QzL ⟨i + 1, rfl, rfl, rfl, by omega, fun t ht hnt => by rcases (by omega : t < i ∨ t = i) with h | rfl; exact hf0_1 t h hnt; first | exact hz | exact absurd hnt (by omega)⟩ ⟨rfl, rfl, rfl, rfl, trivial⟩ ⟨rfl, trivial⟩ ?_
    omega
   ·skip
    refine (je)<|(j1)<|(QE)<|(Qat)<|(gn)<|(QN)<|(Qat)<|(QT)<|(gv)<|(gz) ?_
    first | rw [Ys (i := i) (by omega) hge hne] | rw [YM hf0_1 hkx]
    exact ⟨_, rfl, yt⟩
  ·have hz0 : i = 64 := by omega
   subst hz0
   refine (jo)<|(j1)<|(Qm)<|(QN)<|(gt) ?_
   first | rw [Ys (i := i) (by omega) hge hne] | rw [YM hf0_1 hkx]
   exact ⟨_, rfl, yt⟩
 ·skip
  refine (je)<|(Qc)<|(Qat)<|(g7)<|(Qf 73)<|(Qy)<|(QV 3 0)<|(Qy)<|(QG)<|(Qaf)<|(QT)<|(gh) ?_
  have hkx : nbl ln = ln % 64 := if_neg (by omega)
  refine Qk<|(gs)<|(Qf 8)<|(Qv 1 0)<|(Qm)<|Qn<|Qb ?_
  refine QzK [(1, _), (3, _), (35, _)] [(0, _)] (fun kk E m => ∃ (i : Nat), kk = 64 - i ∧ E = [(36, ii i)] ∧ m = [] ∧ (i ≤ 64) ∧ (∀ t, t < i → n ≤ t → d t = 0)) ⟨0, rfl, rfl, rfl, by omega, fun t ht => absurd ht (Nat.not_lt_zero t)⟩ ⟨rfl, rfl, rfl, rfl, trivial⟩ ⟨rfl, trivial⟩ ?_
  rintro kk E m ⟨i, rfl, rfl, rfl, hf0_0, hf0_1⟩
  simp only [zq, zx]
  refine (gq) ?_
  refine (Qcd) (fun hc2=>?_) fun hc2=>?_
  ·have hc2 : i < 64 := by omega
   refine (jr)<|(QX)<|(g8)<|Qs ?_
   rcases (by omega : ¬ n ≤ i ∨ (n ≤ i ∧ d i = 0) ∨ (n ≤ i ∧ d i ≠ 0)) with hz | ⟨hge, hz⟩ | ⟨hge, hne⟩
   ·skip
    refine (je)<|(j1)<|(QE)<|(Qaf)<|(Qm)<|(g5)<|(QF)<|(go)<|(gl) ?_
    refine QzL ⟨i + 1, rfl, rfl, rfl, by omega, fun t ht hnt => by rcases (by omega : t < i ∨ t = i) with h | rfl; exact hf0_1 t h hnt; first | exact hz | exact absurd hnt (by omega)⟩ ⟨rfl, rfl, rfl, rfl, trivial⟩ ⟨rfl, trivial⟩ ?_
    omega
   ·skip
    refine (je)<|(j1)<|(QE)<|(Qat)<|(gn)<|(QN)<|(Qaf)<|(QT)<|(go)<|(gl) ?_
    refine QzL ⟨i + 1, rfl, rfl, rfl, by omega, fun t ht hnt => by rcases (by omega : t < i ∨ t = i) with h | rfl; exact hf0_1 t h hnt; first | exact hz | exact absurd hnt (by omega)⟩ ⟨rfl, rfl, rfl, rfl, trivial⟩ ⟨rfl, trivial⟩ ?_
    omega
   ·skip
    refine (je)<|(j1)<|(QE)<|(Qat)<|(gn)<|(QN)<|(Qat)<|(QT)<|(gv)<|(gz) ?_
    first | rw [Ys (i := i) (by omega) hge hne] | rw [YM hf0_1 hkx]
    exact ⟨_, rfl, yt⟩
  ·have hz0 : i = 64 := by omega
   subst hz0
   refine (jo)<|(j1)<|(Qm)<|(QN)<|(gt) ?_
   first | rw [Ys (i := i) (by omega) hge hne] | rw [YM hf0_1 hkx]
   exact ⟨_, rfl, yt⟩
theorem z4V (h d : NN) (n ln : Nat) (v : Value) (l : LN) (hv : Shows ((⟨1, arr .u32 8 ivf, 110⟩ : Blk) :: G) 1 v l.length (l.map by8)) (hn : n ≤ 64) (hl : ln ≤ 1073741824) (hok : okB n ln d = true) (hz : 1073741824 < ln + l.length) (hlm : l.length ≤ 4611686018427387904) : Fp ((⟨1, arr .u32 8 ivf, 110⟩ : Blk) :: G) 77 #[.agg (cells 74 [pI .u32 8 h, pI .u8 64 d, pV (.int .i64 (n : Int)), pV (.int .i64 (ln : Int))]), v] (.tuple #[.agg (cells 74 [pI .u32 8 (fun _ => 0), pI .u8 64 (fun _ => 0), pV (.int .i64 0), pV (.int .i64 0)]), ii 1]) := by
 refine Qf2 Tryz.func77 ?_
 refine (g4)<|(Qh 0) fun r1=>(QH 1) fun r2=>(g3)<|Qs<|(gd) ?_
 refine (Ca (X7 h d n ln hn hl)) ?_
 refine (Ab (show (!okB n ln d) = false by rw [hok]; rfl))<|(jt)<|(Qf 73)<|(QV 3 0)<|(Qm)<|(QC hv)<|(Q3)<|(QG)<|(Qat)<|(gv)<|(g4) ?_
 refine zA (cells 74 [pI .u32 8 (fun _ => 0), pI .u8 64 (fun _ => 0), pV (.int .i64 0), pV (.int .i64 0)]) (Ub 113 rfl) (Uu 113 rfl) z33 rfl (by kernel_rfl) rfl ?_
 refine (QW 1)<|(gt) ?_
 exact ⟨_, _, rfl, yb 1, yt⟩
theorem z9S (h d : NN) (n ln : Nat) (v : Value) (l : LN) (hv : Shows ((⟨1, arr .u32 8 ivf, 110⟩ : Blk) :: G) 1 v l.length (l.map by8)) (hlb : By l) (hd : L8 64 d) (hl : ln ≤ 1073741824) (hok : okB n ln d = true) (hz : ln + l.length ≤ 1073741824) : Fp ((⟨1, arr .u32 8 ivf, 110⟩ : Blk) :: G) 77 #[.agg (cells 74 [pI .u32 8 h, pI .u8 64 d, pV (.int .i64 (n : Int)), pV (.int .i64 (ln : Int))]), v] (.tuple #[.agg (cells 74 [pI .u32 8 (Zb h (ln - n) (sS d n l) (yH (sS d n l).length)), pI .u8 64 (fun i => ((sS d n l).drop (64 * yH (sS d n l).length)).getD i 0), pV (.int .i64 (((sS d n l).drop (64 * yH (sS d n l).length)).length : Nat)), pV (.int .i64 (ln + l.length : Nat))]), ii 0]) := by
 obtain ⟨_, hnl, hn, hmod, _⟩ := Xq hok
 have hSl := WL d n l
 have hSb := z8M (n := n) (fun j hj => hd j (by omega)) hlb
 refine Qf2 Tryz.func77 ?_
 refine (g4)<|(Qh 0) fun r1=>(QH 1) fun r2=>(g3)<|Qs<|(gd) ?_
 refine (Ca (X7 h d n ln hn hl)) ?_
 refine (Ab (show (!okB n ln d) = false by rw [hok]; rfl))<|(jt)<|(Qf 73)<|(QV 3 0)<|(Qm)<|(QC hv)<|(Q3)<|(QG)<|(j8)<|(g4)<|(Qf 8)<|(Qv 1 0)<|(QH 2) fun r3=>(Qt 2)<|(jf)<|(j1) ?_
 refine xn 0 n (Uu 111) (Uz 5) rfl rfl rfl rfl ⟨_, rfl⟩ (by omega) (by omega) (by omega) rfl ?_
 refine (QcS 2) ?_
 refine z6 (wq d n) ?_
 refine (Qm) ?_
 refine zE hv ze (Uu 22) (Uu 5) (Uu 9) rfl rfl rfl ?_
 refine zX rfl rfl rfl (by simp; omega) ?_
 refine (Av (sv (sS d n l)))<|(j3)<|(Qf 73)<|(QV 3 0)<|(j1) ?_
 refine xR rfl rfl rfl (by omega) (by omega) ?_
 refine (g3)<|Qs<|Qb ?_
 refine QzK [(1, _), (2, _), (4, _), (5, _)] [(1, _), (2, _)] (fun kk E m => ∃ (k : Nat), kk = (sS d n l).length - 64 * k ∧ E = [(7, sv ((sS d n l).drop (64 * k))), (8, ii (ln - n + 64 * k))] ∧ m = [(0, some ⟨r1, cells 74 [pI .u32 8 (Zb h (ln - n) (sS d n l) k), pI .u8 64 d, pV (.int .i64 (n : Int)), pV (.int .i64 (ln : Int))], 113⟩)] ∧ (64 * k ≤ (sS d n l).length) ∧ (k = 0 ∨ 64 * k < (sS d n l).length)) ⟨0, rfl, rfl, rfl, by omega, .inl rfl⟩ ⟨rfl, rfl, rfl, rfl, rfl, rfl, trivial⟩ ⟨rfl, rfl, rfl, trivial⟩ ?_
 rintro kk E m ⟨k, rfl, rfl, rfl, hf0_0, hf0_1⟩
 simp only [zq, zx]
 have hdl : ((sS d n l).drop (64 * k)).length = (sS d n l).length - 64 * k := List.length_drop
 refine (ge)<|(QU)<|(QG)<|Qn ?_
 refine (Qcd) (fun hc2=>?_) fun hc2=>?_
 ·have hc2 : 64 < (sS d n l).length - 64 * k := by omega
  refine Qk<|(jp)<|(Q2 64)<|(g3)<|(gr)<|(j9)<|(Qm) ?_
  refine yn 0 64 (Uu 9) rfl rfl rfl rfl ⟨_, rfl⟩ (by omega) (by omega) rfl ?_
  refine (Qm) ?_
  refine zd rfl (Un 120) (z1g (Zb h (ln - n) (sS d n l) k) (((sS d n l).drop (64 * k)).take 64) (ln - n + 64 * k + 64) (xZ hSb _ _) (by rw [List.length_take]; omega)) rfl rfl ?_
  refine (Qf 0)<|(QtC 0 0)<|Qn<|(je) ?_
  refine yn 64 ((sS d n l).drop (64 * k)).length (Uu 9) rfl rfl rfl ⟨_, rfl⟩ rfl (by omega) (by omega) rfl ?_
  refine z6 (congrArg sv (z4w _ k)) ?_
  refine (g3) ?_
  refine QzL ⟨k + 1, rfl, rfl, rfl, by omega, .inr (by omega)⟩ ⟨rfl, rfl, rfl, rfl, rfl, rfl, trivial⟩ ⟨rfl, rfl, rfl, trivial⟩ ?_
  omega
 ·have hc2 : ¬ 64 < (sS d n l).length - 64 * k := by omega
  refine (jo)<|(j9)<|(Qm)<|(QU)<|(Qf 73)<|(QV 3 0)<|(Qm)<|(QC hv)<|(Q3) ?_
  refine zA (cells 74 [pI .u32 8 (Zb h (ln - n) (sS d n l) k), pI .u8 64 (fun _ => 0), pV (.int .i64 (((sS d n l).drop (64 * k)).length : Nat)), pV (.int .i64 (ln + l.length : Nat))]) (Ub 113 rfl) (Uu 113 rfl) z33 rfl (by kernel_rfl) rfl ?_
  refine (QH 3) fun r4=>(QW 3)<|(gj)<|(Qf 8)<|(Qsa 0 64)<|(Qm) ?_
  refine z9m (i := 3) 1 (Uu 22) (Uz 5) rfl rfl (fun b hb => hSb b (List.mem_of_mem_drop hb)) rfl rfl (Nat.le_of_ble_eq_true rfl) (by decide) rfl ?_
  refine (gj)<|(QD 3) ?_
  refine z6 (Eq.trans (show _ = .agg (cells 74 [pI .u32 8 (Zb h (ln - n) (sS d n l) k), pI .u8 64 (fun i => if i < min ((sS d n l).drop (64 * k)).length 64 then ((sS d n l).drop (64 * k)).getD i 0 else 0), pV (.int .i64 (((sS d n l).drop (64 * k)).length : Nat)), pV (.int .i64 (ln + l.length : Nat))]) from rfl) (by rw [z7p _ (by omega), zgw (n := (sS d n l).length) (by omega) hf0_1])) ?_
  refine (QW 1)<|(gt) ?_
  exact ⟨_, _, rfl, yb 1, yt⟩
theorem ziu (l : LN) (hl : By l) (hn : l.length = 32) : Fp G 37 #[sv l] (.agg (arr .u8 32 (fun j => l.getD j 0))) := by
 refine Qf1 Tryz.func37 ?_
 refine (g4)<|(QH 0) fun r1=>(gj)<|(QH 1) fun r2=>(gj)<|(Qsa 0 32)<|(Qm) ?_
 refine Yy (i := 1) (Uu 22) (Uz 5) rfl rfl hl rfl (by omega) rfl ?_
 refine (gj)<|(Qd 1) ?_
 refine (Aa (fun j hj => if_pos (by omega)))<|(Qt 0)<|Qn<|Qr ?_
 exact ⟨_, rfl, ya 0⟩
theorem z23 (h d : NN) (n ln : Nat) (hd : L8 64 d) (hl : ln ≤ 1073741824) (hok : okB n ln d = true) : Fp ((⟨1, arr .u32 8 ivf, 110⟩ : Blk) :: G) 79 #[.agg (cells 74 [pI .u32 8 h, pI .u8 64 d, pV (.int .i64 (n : Int)), pV (.int .i64 (ln : Int))])] (.tuple #[.agg (arr .u8 32 (Yd (sqz h ((List.range 64).map d) ln true))), ii 0]) := by
 obtain ⟨_, _, hn, _, _⟩ := Xq hok
 obtain ⟨w, hw⟩ : ∃ w, w = (sqz h ((List.range 64).map d) ln true) := ⟨_, rfl⟩
 have hwl : ∀ t, w t < 4294967296 := fun t => by rw [hw]; exact zj5 _ _ _ _ _
 refine Qf2 Tryz.func79 ?_
 refine (g4)<|(Qh 0) fun r1=>(QH 1) fun r2=>(g3)<|Qs<|(gd) ?_
 refine (Ca (X7 h d n ln hn hl)) ?_
 refine (Ab (show (!okB n ln d) = false by rw [hok]; rfl))<|(go)<|(g4)<|(Qf 8)<|(Qv 1 0)<|(QH 2) fun r3=>(Qt 2)<|(gj) ?_
 refine xB (v := sv []) rfl rfl ?_
 refine Qn<|Qs<|(gr)<|(j9)<|(Qsa 0 64)<|(QcS 2) ?_
 refine z6 (wq d 64) ?_
 refine (Qf 73)<|(QV 3 0) ?_
 refine (Ca (z1t h ((List.range 64).map d) ln (yq hd) (by simp))) ?_
 refine z6 (congrArg (fun f => Value.agg (arr .u32 8 f)) hw.symm) ?_
 refine (Qm)<|Qn<|Qb ?_
 refine QzK [(2, _), (3, _), (19, _)] [(0, _), (1, _), (2, _)] (fun kk E m => ∃ (i : Nat), kk = 8 - i ∧ E = [(5, sv (hol w i)), (20, ii i)] ∧ m = [] ∧ (i ≤ 8)) ⟨0, rfl, rfl, rfl, by omega⟩ ⟨rfl, rfl, rfl, rfl, rfl, trivial⟩ ⟨rfl, rfl, rfl, trivial⟩ ?_
 rintro kk E m ⟨i, rfl, rfl, rfl, hf0_0⟩
 simp only [zq, zx]
 have hhl := W3 w i
 have hwi := hwl i
 refine (gq) ?_
 refine (Qcd) (fun hc1=>?_) fun hc1=>?_
 ·have hc1 : i < 8 := by omega
  refine Qk<|Qs<|Qb<|(g4)<|(QX)<|(g3)<|Qp<|(gb) ?_
  refine WE (Uu 109) (Uu 31) rfl rfl rfl (by omega) ?_
  refine (Ca (xQ (w i) 4 (by omega) (by decide))) ?_
  refine zX rfl rfl rfl (by rw [zK]; omega) ?_
  refine (jb) ?_
  refine QzL ⟨i + 1, rfl, rfl, rfl, by omega⟩ ⟨rfl, rfl, rfl, rfl, rfl, trivial⟩ ⟨rfl, rfl, rfl, trivial⟩ ?_
  omega
 ·have hz0 : i = 8 := by omega
  refine Qe<|(g6) ?_
  refine (Ca (ziu (hol w i) (z6r w i) (by omega))) ?_
  refine (Av (Value.agg (arr .u8 32 (fun j => (hol w i).getD j 0))))<|(Qt 1)<|(gt) ?_
  rw [show Yd (sqz h ((List.range 64).map d) ln true) = fun j => (hol w i).getD j 0 by rw [hz0, ← hw]; rfl]
  exact ⟨_, _, rfl, ya 1, yt⟩
abbrev IVB : Blk := ⟨1, arr .u32 8 ivf, 110⟩
theorem z3g : .agg (cells 74 [pI .u32 8 z1n, pI .u8 64 (fun _ => 0), pV (.int .i64 0), pV (.int .i64 0)]) = stB [] := by
 unfold stB cB
 rw [zbL, zeQ]; rfl
theorem z7n {G : Mem} (m : LN) (v : Value) (l : LN) (hm : By m) (hv : Sh (IVB :: G) v l) (hlb : By l) (hz : m.length + l.length ≤ 1073741824) :
  Fn Tryz.prog (IVB :: G) 77 #[stB m, v] (.tuple #[stB (m ++ l), ii 0]) := by
 have h := z9S (G := G) (Vm m) (vg m) (yW m).length m.length v l hv hlb (fun j _ => Xj hm j) (by omega) (Wh m) hz
 rw [z62, z8B, z5x, z1Q, ← List.length_append] at h
 exact h
theorem z6Y {G : Mem} (m : LN) (hm : By m) (hz : m.length ≤ 1073741824) : Fp (IVB :: G) 79 #[stB m] (.tuple #[.agg (arr .u8 32 (vT m)), ii 0]) := by
 have h := z23 (G := G) (Vm m) (vg m) (yW m).length m.length (fun j _ => Xj hm j) hz (Wh m)
 rw [← z0D hz] at h
 exact h
theorem zfR (l : LN) (hb : By l) (hz : l.length ≤ 1073741824) : Fp (IVB :: G) 45 #[sv l] (.agg (arr .u8 32 (vT l))) := by
 refine Qf1 Tryz.func45 ?_
 refine (g4)<|(QH 0) fun r1=>Qn<|Qs<|QR ⟨[], 1, [22], none, none⟩ ?_
 refine (Ca z1z) ?_
 refine z6 z3g ?_
 refine (Qm) ?_
 refine yU 1 (Uu 9) (Uu 22) (Uu 5) rfl hb (by simp only [maxLen]; omega) rfl rfl fun v1_1 oz1_1 ho1_1 => ?_
 refine zg rfl rfl (Un 77) (zf z82 (zL 1 rfl ⟨[], trivial⟩)) (z7n (G := oz1_1.toList) [] _ l (by simp) ((zY ho1_1).mono (fun x h => List.mem_cons_of_mem _ h)) hb (by simpa using hz)) rfl rfl ?_
 refine (Av (Value.tuple #[stB l, ii 0]))<|(gi)<|(QH 2) fun r3=>(QW 2)<|(j3)<|(QD 2) ?_
 refine (Ca (z6Y l hb hz))<|(gi)<|(QH 3) fun r4=>(Qt 3)<|(j3)<|(Qd 3)<|(Qt 0)<|Qn<|Qr ?_
 exact ⟨_, rfl, ya 0⟩
theorem zfM (l : LN) (hb : By l) (hl : l.length ≤ 4611686018427387904) (hz : ¬ l.length ≤ 1073741824) : Fp (IVB :: G) 45 #[sv l] (.agg (arr .u8 32 (vT l))) := by
 refine Qf1 Tryz.func45 ?_
 refine (g4)<|(QH 0) fun r1=>Qn<|Qs<|QR ⟨[], 1, [22], none, none⟩ ?_
 refine (Ca z1z) ?_
 refine z6 z3g ?_
 refine (Qm) ?_
 refine yU 1 (Uu 9) (Uu 22) (Uu 5) rfl hb (by simp only [maxLen]; omega) rfl rfl fun v1_1 oz1_1 ho1_1 => ?_
 refine zg rfl rfl (Un 77) (zf z82 (zL 1 rfl ⟨[], trivial⟩)) (z4V (G := oz1_1.toList) (Vm []) (vg []) 0 0 _ l ((zY ho1_1).mono (fun x h => List.mem_cons_of_mem _ h)) (by decide) (by decide) (Wh []) (by omega) hl) rfl rfl ?_
 refine (gi)<|(QH 2) fun r3=>(QW 2)<|(j3)<|(QD 2) ?_
 refine zd rfl (Un 79) (z23 (fun _ => 0) (fun _ => 0) 0 0 (fun _ _ => (show 0 < 256 by decide)) (by decide) zeV) rfl rfl ?_
 refine z6 (congrArg (fun f => Value.tuple #[.agg (arr .u8 32 f), ii 0]) (z7u hz).symm) ?_
 refine (gi)<|(QH 3) fun r4=>(Qt 3)<|(j3)<|(Qd 3)<|(Qt 0)<|Qn<|Qr ?_
 exact ⟨_, rfl, ya 0⟩
theorem vz {G : Mem} (l : LN) (hb : By l) (hl : l.length ≤ 4611686018427387904) : Fp (IVB :: G) 45 #[sv l] (.agg (arr .u8 32 (vT l))) := by
 by_cases hz : l.length ≤ 1073741824
 ·exact zfR l hb hz
 ·exact zfM l hb hl hz
theorem xe (f : NN) : Fp G 23 #[.agg (arr .u8 32 f)] (sv ((List.range 32).map f)) := by
 refine Qf1 Tryz.func23 ?_
 refine (g4)<|(Qh 0) fun r1=>?_
 refine xB (v := sv []) rfl rfl ?_
 refine (gj)<|(Qsa 0 32)<|(QcS 0) ?_
 refine z6 (wq f 32) ?_
 refine (gt) ?_
 exact ⟨_, rfl, yt⟩
theorem zeO (k s : LN) (hk : By k) (hb : By s) (hkl : 64 < k.length) (hkm : k.length ≤ 4611686018427387904) (hs : s.length ≤ 2305843009213693952) : Fp (IVB :: G) 88 #[sv k, sv s] (.agg (arr .u8 32 (mac k s))) := by
 have hmk : z0X k = bsl k := if_pos hkl
 have hkle := XL k
 rw [hmk] at hkle
 obtain ⟨P, hPe⟩ : ∃ P, P = X2 k := ⟨_, rfl⟩
 have hP : P.length = 64 := by rw [hPe]; exact z0w k
 have hPl : ∀ b ∈ P, b < 256 := by rw [hPe]; exact z8w hk
 refine Qf1 Tryz.func88 ?_
 refine (g4)<|(QH 0) fun r1=>Qn<|(ge)<|(QU)<|(QG)<|(Qat)<|(gv)<|(je) ?_
 refine (Ca (vz k hk hkm)) ?_
 refine (Ca (xe _)) ?_
 refine (Av (sv (bsl k)))<|(gm)<|(Qm)<|(QU) ?_
 refine xR (p := 64) rfl rfl rfl (by omega) (by omega) ?_
 refine (Ca (X3 (64 - (bsl k).length) (by omega))) ?_
 refine zX rfl rfl rfl (by rw [wu]; omega) ?_
 refine z6 (congrArg sv (show (bsl k) ++ zrs (64 - (bsl k).length) = P by rw [hPe, X2, hmk])) ?_
 refine (g3)<|Qs<|QR ⟨[], 1, [22], none, none⟩<|(Qm) ?_
 refine yU 1 (Uu 9) (Uu 22) (Uu 5) rfl hPl (by simp only [maxLen]; omega) rfl rfl fun v2_1 oz2_1 ho2_1 => ?_
 refine (Qm) ?_
 refine yU 2 (Uu 9) (Uu 22) (Uu 5) rfl hPl (by simp only [maxLen]; omega) rfl rfl fun v2_2 oz2_2 ho2_2 => ?_
 refine (ja)<|(QC ho2_1.shows) ?_
 refine (Ai hP)<|(Qm)<|Qn<|Qb ?_
 refine QzK [(1, _), (4, _), (5, _), (6, _), (25, _)] [(0, _)] (fun kk E m => ∃ (i : Nat) (oa : Option Blk) (ob : Option Blk), kk = 64 - i ∧ E = [(26, ii i)] ∧ m = [(1, oa), (2, ob)] ∧ (i ≤ 64) ∧ (OwnS 5 1 v2_1 P.length ((xst P 54 i).map by8) (Option.toList oa)) ∧ (OwnS 5 1 v2_2 P.length ((xst P 92 i).map by8) (Option.toList ob))) ⟨0, oz2_1, oz2_2, rfl, rfl, rfl, by omega, zy ho2_1 rfl (by rw [← Wj]), zy ho2_2 rfl (by rw [← Wj])⟩ ⟨rfl, rfl, rfl, rfl, rfl, rfl, trivial⟩ ⟨rfl, rfl, rfl, trivial⟩ ?_
 rintro kk E m ⟨i, oa, ob, rfl, rfl, rfl, hf0_0, hf0_1, hf0_2⟩
 simp only [zq, zx]
 have hx1 := VD P 54 (i := i) (by omega)
 have hx2 := VD P 92 (i := i) (by omega)
 refine (gq) ?_
 refine (Qcd) (fun hc1=>?_) fun hc1=>?_
 ·have hc1 : i < 64 := by omega
  refine (jr)<|(gm)<|(Qm) ?_
  refine yf hf0_1.shows (Uu 22) (Uz 5) rfl rfl (by omega) rfl ?_
  refine (QS) ?_
  refine zS hf0_1.shows (zL 1 rfl ⟨[], trivial⟩) (Uu 5) rfl rfl (z3P (by omega)) rfl ?_
  refine Z0 (q := 54) rfl rfl rfl  ?_
  refine yf hf0_1.shows (Uu 22) (Uz 5) rfl rfl (by omega) rfl ?_
  refine (QS) ?_
  refine Xs (i := 1) hf0_1 (Uz 5) rfl rfl rfl rfl (by omega) rfl fun oz3_3 ho3_3 => ?_
  refine Qn<|Qp<|(gb) ?_
  refine yf hf0_2.shows (Uu 22) (Uz 5) rfl rfl (by omega) rfl ?_
  refine (QS) ?_
  refine zS hf0_2.shows (zL 2 rfl ⟨[], trivial⟩) (Uu 5) rfl rfl (z3P (by omega)) rfl ?_
  refine Z0 (q := 92) rfl rfl rfl  ?_
  refine yf hf0_2.shows (Uu 22) (Uz 5) rfl rfl (by omega) rfl ?_
  refine (QS) ?_
  refine Xs (i := 2) hf0_2 (Uz 5) rfl rfl rfl rfl (by omega) rfl fun oz3_4 ho3_4 => ?_
  refine (jc) ?_
  refine QzL ⟨i + 1, _, _, rfl, rfl, rfl, by omega, zy (We ho3_3) rfl (by rw [XM P 54 (by omega)]), zy (We ho3_4) rfl (by rw [XM P 92 (by omega)])⟩ ⟨rfl, rfl, rfl, rfl, rfl, rfl, trivial⟩ ⟨rfl, rfl, rfl, trivial⟩ ?_
  omega
 ·have hz0 : i = 64 := by omega
  refine Qe<|(gr)<|(Qm) ?_
  refine zE (l := (xst P 92 i)) (zY hf0_2) (zL 2 rfl ⟨[], trivial⟩) (Uu 22) (Uu 5) (Uu 9) rfl rfl rfl ?_
  refine z6 (congrArg sv (show xst P 92 i = xm P 92 by rw [hz0, ← hP, VI])) ?_
  refine (Qm) ?_
  refine zE (l := (xst P 54 i)) (zY hf0_1) (zL 1 rfl ⟨[], trivial⟩) (Uu 22) (Uu 5) (Uu 9) rfl rfl rfl ?_
  refine z6 (congrArg sv (show xst P 54 i = xm P 54 by rw [hz0, ← hP, VI])) ?_
  refine (Qm) ?_
  refine zX rfl rfl rfl (by rw [yi]; omega) ?_
  refine (Ca (vz (xm P 54 ++ s) (fun b h => (List.mem_append.1 h).elim (XW P 54 b) (hb b)) (by rw [List.length_append, yi]; omega))) ?_
  refine (Ca (xe _)) ?_
  refine (Av (sv (bsl (xm P 54 ++ s)))) ?_
  refine zX rfl rfl rfl (by rw [yi, XX]; omega) ?_
  refine zd rfl (Un 45) (vz (xm P 92 ++ bsl (xm P 54 ++ s)) (fun b h => (List.mem_append.1 h).elim (XW P 92 b) (z3B _ b)) (by rw [List.length_append, yi, XX]; omega)) rfl rfl ?_
  refine (Af (show vT (xm P 92 ++ bsl (xm P 54 ++ s)) = mac k s by rw [hPe]; rfl))<|(Qt 0)<|Qn<|Qr ?_
  exact ⟨_, rfl, ya 0⟩
theorem zbd (k s : LN) (hk : By k) (hb : By s) (hkl : ¬ 64 < k.length) (hs : s.length ≤ 2305843009213693952) : Fp (IVB :: G) 88 #[sv k, sv s] (.agg (arr .u8 32 (mac k s))) := by
 have hmk : z0X k = k := if_neg hkl
 have hkle := XL k
 rw [hmk] at hkle
 obtain ⟨P, hPe⟩ : ∃ P, P = X2 k := ⟨_, rfl⟩
 have hP : P.length = 64 := by rw [hPe]; exact z0w k
 have hPl : ∀ b ∈ P, b < 256 := by rw [hPe]; exact z8w hk
 refine Qf1 Tryz.func88 ?_
 refine (g4)<|(QH 0) fun r1=>Qn<|(ge)<|(QU)<|(QG)<|(j8)<|(g6)<|(Qm)<|(QU) ?_
 refine xR (p := 64) rfl rfl rfl (by omega) (by omega) ?_
 refine (Ca (X3 (64 - k.length) (by omega))) ?_
 refine zX rfl rfl rfl (by rw [wu]; omega) ?_
 refine z6 (congrArg sv (show k ++ zrs (64 - k.length) = P by rw [hPe, X2, hmk])) ?_
 refine (g3)<|Qs<|QR ⟨[], 1, [22], none, none⟩<|(Qm) ?_
 refine yU 1 (Uu 9) (Uu 22) (Uu 5) rfl hPl (by simp only [maxLen]; omega) rfl rfl fun v2_1 oz2_1 ho2_1 => ?_
 refine (Qm) ?_
 refine yU 2 (Uu 9) (Uu 22) (Uu 5) rfl hPl (by simp only [maxLen]; omega) rfl rfl fun v2_2 oz2_2 ho2_2 => ?_
 refine (ja)<|(QC ho2_1.shows) ?_
 refine (Ai hP)<|(Qm)<|Qn<|Qb ?_
 refine QzK [(1, _), (4, _), (5, _), (6, _), (25, _)] [(0, _)] (fun kk E m => ∃ (i : Nat) (oa : Option Blk) (ob : Option Blk), kk = 64 - i ∧ E = [(26, ii i)] ∧ m = [(1, oa), (2, ob)] ∧ (i ≤ 64) ∧ (OwnS 5 1 v2_1 P.length ((xst P 54 i).map by8) (Option.toList oa)) ∧ (OwnS 5 1 v2_2 P.length ((xst P 92 i).map by8) (Option.toList ob))) ⟨0, oz2_1, oz2_2, rfl, rfl, rfl, by omega, zy ho2_1 rfl (by rw [← Wj]), zy ho2_2 rfl (by rw [← Wj])⟩ ⟨rfl, rfl, rfl, rfl, rfl, rfl, trivial⟩ ⟨rfl, rfl, rfl, trivial⟩ ?_
 rintro kk E m ⟨i, oa, ob, rfl, rfl, rfl, hf0_0, hf0_1, hf0_2⟩
 simp only [zq, zx]
 have hx1 := VD P 54 (i := i) (by omega)
 have hx2 := VD P 92 (i := i) (by omega)
 refine (gq) ?_
 refine (Qcd) (fun hc1=>?_) fun hc1=>?_
 ·have hc1 : i < 64 := by omega
  refine (jr)<|(gm)<|(Qm) ?_
  refine yf hf0_1.shows (Uu 22) (Uz 5) rfl rfl (by omega) rfl ?_
  refine (QS) ?_
  refine zS hf0_1.shows (zL 1 rfl ⟨[], trivial⟩) (Uu 5) rfl rfl (z3P (by omega)) rfl ?_
  refine Z0 (q := 54) rfl rfl rfl  ?_
  refine yf hf0_1.shows (Uu 22) (Uz 5) rfl rfl (by omega) rfl ?_
  refine (QS) ?_
  refine Xs (i := 1) hf0_1 (Uz 5) rfl rfl rfl rfl (by omega) rfl fun oz3_3 ho3_3 => ?_
  refine Qn<|Qp<|(gb) ?_
  refine yf hf0_2.shows (Uu 22) (Uz 5) rfl rfl (by omega) rfl ?_
  refine (QS) ?_
  refine zS hf0_2.shows (zL 2 rfl ⟨[], trivial⟩) (Uu 5) rfl rfl (z3P (by omega)) rfl ?_
  refine Z0 (q := 92) rfl rfl rfl  ?_
  refine yf hf0_2.shows (Uu 22) (Uz 5) rfl rfl (by omega) rfl ?_
  refine (QS) ?_
  refine Xs (i := 2) hf0_2 (Uz 5) rfl rfl rfl rfl (by omega) rfl fun oz3_4 ho3_4 => ?_
  refine (jc) ?_
  refine QzL ⟨i + 1, _, _, rfl, rfl, rfl, by omega, zy (We ho3_3) rfl (by rw [XM P 54 (by omega)]), zy (We ho3_4) rfl (by rw [XM P 92 (by omega)])⟩ ⟨rfl, rfl, rfl, rfl, rfl, rfl, trivial⟩ ⟨rfl, rfl, rfl, trivial⟩ ?_
  omega
 ·have hz0 : i = 64 := by omega
  refine Qe<|(gr)<|(Qm) ?_
  refine zE (l := (xst P 92 i)) (zY hf0_2) (zL 2 rfl ⟨[], trivial⟩) (Uu 22) (Uu 5) (Uu 9) rfl rfl rfl ?_
  refine z6 (congrArg sv (show xst P 92 i = xm P 92 by rw [hz0, ← hP, VI])) ?_
  refine (Qm) ?_
  refine zE (l := (xst P 54 i)) (zY hf0_1) (zL 1 rfl ⟨[], trivial⟩) (Uu 22) (Uu 5) (Uu 9) rfl rfl rfl ?_
  refine z6 (congrArg sv (show xst P 54 i = xm P 54 by rw [hz0, ← hP, VI])) ?_
  refine (Qm) ?_
  refine zX rfl rfl rfl (by rw [yi]; omega) ?_
  refine (Ca (vz (xm P 54 ++ s) (fun b h => (List.mem_append.1 h).elim (XW P 54 b) (hb b)) (by rw [List.length_append, yi]; omega))) ?_
  refine (Ca (xe _)) ?_
  refine (Av (sv (bsl (xm P 54 ++ s)))) ?_
  refine zX rfl rfl rfl (by rw [yi, XX]; omega) ?_
  refine zd rfl (Un 45) (vz (xm P 92 ++ bsl (xm P 54 ++ s)) (fun b h => (List.mem_append.1 h).elim (XW P 92 b) (z3B _ b)) (by rw [List.length_append, yi, XX]; omega)) rfl rfl ?_
  refine (Af (show vT (xm P 92 ++ bsl (xm P 54 ++ s)) = mac k s by rw [hPe]; rfl))<|(Qt 0)<|Qn<|Qr ?_
  exact ⟨_, rfl, ya 0⟩
theorem z0Z (a b c : NN) : Instr.fill (fun i => some (i * 32, 32)) (arr .u8 96 fun _ => 0) [(0, .agg (arr .u8 32 a)), (1, .agg (arr .u8 32 b)), (2, .agg (arr .u8 32 c))] = some (arr .u8 96 (vR a b c)) := by kernel_rfl
theorem z37 {G : Mem} (k s : LN) (hk : By k) (hb : By s) (hkm : k.length ≤ 4611686018427387904) (hs : s.length ≤ 2305843009213693952) : Fp (IVB :: G) 88 #[sv k, sv s] (.agg (arr .u8 32 (mac k s))) := by
 by_cases h : 64 < k.length
 ·exact zeO k s hk hb h hkm hs
 ·exact zbd k s hk hb h hs
theorem z2s (c : NN) (s : LN) (hc : L8 32 c) (hb : By s) (hs : s.length ≤ 2305843009213693952) : Fp (IVB :: G) 47 #[.agg (arr .u8 32 c), sv s] (.agg (arr .u8 96 (vR (kA c s) (kB c s) (kC c s)))) := by
 have hTl := zjh c s
 have hTb := zi2 c s
 have hAb : ∀ b ∈ (List.range 32).map (kA c s), b < 256 := yq fun _ _ => Ze _ _ _
 have hBb : ∀ b ∈ (List.range 32).map (kB c s), b < 256 := yq fun _ _ => Ze _ _ _
 have hl3 : ∀ f : Nat → Nat, ((List.range 32).map f).length = 32 := fun f => by simp
 refine Qf1 Tryz.func47 ?_
 refine (g4)<|(Qh 0) fun r1=>(QH 1) fun r2=>(gj)<|(Qd 0) ?_
 refine (Ca (xe _))<|(Qm) ?_
 refine (Ca (z37 ((List.range 32).map c) s (yq hc) hb (by simp) hs)) ?_
 refine (Ca (xe _)) ?_
 refine (Av (sv (kT c s)))<|(gm) ?_
 refine (Ca (z37 (kT c s) [1] hTb (by decide) (by omega) (by decide))) ?_
 refine (Av (Value.agg (arr .u8 32 (kA c s))))<|(QH 2) fun r3=>(Qt 2)<|Qn<|(g6)<|(Qd 2) ?_
 refine (Ca (xe _)) ?_
 refine zX (k := [2]) rfl rfl rfl (by simp) ?_
 refine (Ca (z37 (kT c s) ((List.range 32).map (kA c s) ++ [2]) hTb (z3F hAb (by decide)) (by omega) (by simp))) ?_
 refine (Av (Value.agg (arr .u8 32 (kB c s))))<|(QH 3) fun r4=>(Qt 3)<|(jf)<|(Qd 2)<|(Qd 3)<|(Qm)<|(Qd 3) ?_
 refine (Ca (xe _)) ?_
 refine zX (k := [3]) rfl rfl rfl (by simp) ?_
 refine (Ca (z37 (kT c s) ((List.range 32).map (kB c s) ++ [3]) hTb (z3F hBb (by decide)) (by omega) (by simp))) ?_
 refine (Av (Value.agg (arr .u8 32 (kC c s)))) ?_
 refine wn (arr .u8 96 (vR (kA c s) (kB c s) (kC c s))) (Ub 79 rfl) (Uu 79 rfl) (Uz 30 rfl) rfl (z0Z (kA c s) (kB c s) (kC c s)) rfl ?_
 refine (j4)<|Qr ?_
 exact ⟨_, rfl, ya 1⟩
theorem Zz (has : Bool) (k : NN) (n : Nat) (ch h : NN) (l : LN) (hb : By l) (hl : l.length ≤ 281474976710656) (hh : L8 32 h) : Fp (IVB :: G) 20 #[SV has k n ch h, sv l] (SV has k n ch (hx h l)) := by
 obtain ⟨g, hg⟩ : ∃ g, g = hx h l := ⟨_, rfl⟩
 rw [← hg]
 refine Qf1 Tryz.func20 ?_
 refine (g4)<|(Qh 0) fun r1=>(QH 1) fun r2=>(gj)<|(Qf 66)<|(Qv 4 0) ?_
 refine (Ca (xe h))<|(Qm) ?_
 refine zX rfl rfl rfl (by simp; omega) ?_
 refine (Ca (vz ((List.range 32).map h ++ l) (z8S (yq hh) hb) (by simp; omega))) ?_
 refine (Af (show vT ((List.range 32).map h ++ l) = g from hg.symm))<|(Qf 66)<|(QtC 0 4)<|Qn<|(gd) ?_
 refine (Av (SV has k n ch g))<|(QW 1)<|Qn<|Qr ?_
 exact ⟨_, rfl, yb 1⟩
theorem z2B (has : Bool) (k : NN) (n : Nat) (ch h : NN) (l : LN) (hb : By l) (hl : l.length ≤ 281474976710656) (hc : L8 32 ch) : Fp (IVB :: G) 24 #[SV has k n ch h, sv l] (SV true (kB ch l) 0 (kA ch l) h) := by
 obtain ⟨fa, hfa⟩ : ∃ fa, fa = kA ch l := ⟨_, rfl⟩
 obtain ⟨fb, hfb⟩ : ∃ fb, fb = kB ch l := ⟨_, rfl⟩
 obtain ⟨fc, hfc⟩ : ∃ fc, fc = kC ch l := ⟨_, rfl⟩
 rw [← hfa, ← hfb]
 refine Qf1 Tryz.func24 ?_
 refine (g4)<|(Qh 0) fun r1=>(QH 1) fun r2=>(gj)<|(Qf 34)<|(Qv 3 0)<|(Qm) ?_
 refine (Ca (z2s ch l hc hb (by omega))) ?_
 refine z6 (show Value.agg (arr .u8 96 (vR (kA ch l) (kB ch l) (kC ch l))) = Value.agg (arr .u8 96 (vR fa fb fc)) by rw [hfa, hfb, hfc]) ?_
 refine (QH 2) fun r3=>(Qt 2)<|(gj)<|(QA 0 0)<|(Qls 2) ?_
 refine (Aa (z6p fa fb fc))<|(QA 32 1)<|(Qls 2) ?_
 refine (Aa (z7z fa fb fc)) ?_
 refine zA (cells 34 [pV (.bool true), pI .u8 32 fb, pV (u 0)]) (Ub 33 rfl) (Uu 33 rfl) vM rfl (by kernel_rfl) rfl ?_
 refine (Qf 66)<|(Qv 4 0) ?_
 refine zA (cells 98 [pV (.bool true), pI .u8 32 fb, pV (u 0), pI .u8 32 fa, pI .u8 32 h]) (Ub 35 rfl) (Uu 35 rfl) z0b rfl (by kernel_rfl) rfl ?_
 refine (QW 1)<|Qn<|Qr ?_
 exact ⟨_, rfl, yb 1⟩
theorem z6R (has : Bool) (k : NN) (n : Nat) (ch h : NN) (l : LN) (hb : By l) (hl : l.length ≤ 281474976710656) (hc : L8 32 ch) (hh : L8 32 h) : Fp (IVB :: G) 56 #[SV has k n ch h, sv l] (SV true (kC ch l) 0 (kA ch l) (hx h ((List.range 32).map (kB ch l)))) := by
 obtain ⟨fa, hfa⟩ : ∃ fa, fa = kA ch l := ⟨_, rfl⟩
 obtain ⟨fb, hfb⟩ : ∃ fb, fb = kB ch l := ⟨_, rfl⟩
 obtain ⟨fc, hfc⟩ : ∃ fc, fc = kC ch l := ⟨_, rfl⟩
 have hfb2 : ∀ j, j < 32 → fb j < 256 := fun j _ => by rw [hfb]; exact Ze _ _ _
 obtain ⟨g, hg⟩ : ∃ g, g = hx h ((List.range 32).map (kB ch l)) := ⟨_, rfl⟩
 rw [← hfa, ← hfc, ← hg]
 refine Qf1 Tryz.func56 ?_
 refine (g4)<|(Qh 0) fun r1=>(QH 1) fun r2=>(gj)<|(Qf 34)<|(Qv 3 0)<|(Qm) ?_
 refine (Ca (z2s ch l hc hb (by omega))) ?_
 refine z6 (show Value.agg (arr .u8 96 (vR (kA ch l) (kB ch l) (kC ch l))) = Value.agg (arr .u8 96 (vR fa fb fc)) by rw [hfa, hfb, hfc]) ?_
 refine (QH 2) fun r3=>(Qt 2)<|(jf)<|(QA 0 0)<|(Qls 2) ?_
 refine (Aa (z6p fa fb fc))<|(QA 64 2)<|(Qls 2) ?_
 refine (Aa (zde fa fb fc)) ?_
 refine zA (cells 34 [pV (.bool true), pI .u8 32 fc, pV (u 0)]) (Ub 33 rfl) (Uu 33 rfl) vM rfl (by kernel_rfl) rfl ?_
 refine (QD 0)<|(QA 32 1)<|(Qls 2) ?_
 refine (Aa (z7z fa fb fc)) ?_
 refine (Ca (xe fb)) ?_
 refine (Ca (Zz has k n ch h ((List.range 32).map fb) (yq hfb2) (by simp) hh)) ?_
 refine z6 (congrArg (fun f => SV has k n ch f) (show hx h ((List.range 32).map fb) = g by rw [hg, hfb])) ?_
 refine (QJ 4) ?_
 refine zA (cells 98 [pV (.bool true), pI .u8 32 fc, pV (u 0), pI .u8 32 fa, pI .u8 32 g]) (Ub 35 rfl) (Uu 35 rfl) z0b rfl (by kernel_rfl) rfl ?_
 refine (QW 1)<|Qn<|Qr ?_
 exact ⟨_, rfl, yb 1⟩
theorem z5n (o has : Bool) (k : NN) (n : Nat) (ch h : NN) (vt : Value) (hok : okC has k n = false) : Fp (IVB :: G) 33 #[.bool o, SV has k n ch h, vt] (.tuple #[(.agg (cells 98 [pV (.bool false), pI .u8 32 (fun _ => 0), pV (.int .u64 0), pI .u8 32 (fun _ => 0), pI .u8 32 (fun _ => 0)])), yg, ii 9]) := by
 refine Qf3 Tryz.func33 ?_
 refine (g4)<|(Qh 0) fun r1=>(QH 1) fun r2=>(g8)<|(gr)<|(Qm)<|(Qf 0)<|(QlK 0 0 3) ?_
 refine (Av (CV has k n))<|(Qf 66)<|(Qsa 0 32)<|(Qm) ?_
 refine zg rfl rfl (Un 55) z5L (zc3 (G := []) o has k n _ _ hok) rfl rfl ?_
 refine (jn)<|(QH 2) fun r3=>(QW 2)<|(ja)<|(QN) ?_
 refine (Ab (decide_eq_true (by decide)))<|(gv)<|(g4) ?_
 refine zA (cells 98 [pV (.bool false), pI .u8 32 (fun _ => 0), pV (.int .u64 0), pI .u8 32 (fun _ => 0), pI .u8 32 (fun _ => 0)]) (Ub 35 rfl) (Uu 35 rfl) z0b rfl (by kernel_rfl) rfl ?_
 refine (Qm)<|(jk) ?_
 exact ⟨_, _, _, rfl, yb 1, yt, yt⟩
theorem z3o (o : Bool) (k : NN) (n : Nat) (ch h : NN) (vt : Value) (tx : LN) (hvt : Sh (IVB :: G) vt tx) (hok : okC false k n = true) (hl : 800 < tx.length) : Fp (IVB :: G) 33 #[.bool o, SV false k n ch h, vt] (.tuple #[(.agg (cells 98 [pV (.bool false), pI .u8 32 (fun _ => 0), pV (.int .u64 0), pI .u8 32 (fun _ => 0), pI .u8 32 (fun _ => 0)])), yg, ii 1]) := by
 refine Qf3 Tryz.func33 ?_
 refine (g4)<|(Qh 0) fun r1=>(QH 1) fun r2=>(g8)<|(gr)<|(Qm)<|(Qf 0)<|(QlK 0 0 3) ?_
 refine (Av (CV false k n))<|(Qf 66)<|(Qsa 0 32)<|(Qm) ?_
 refine zg rfl rfl (Un 55) ze (zbJ (G := IVB :: G) o k n _ _ tx hvt hok hl) rfl rfl ?_
 refine (jn)<|(QH 2) fun r3=>(QW 2)<|(ja)<|(QN) ?_
 refine (Ab (decide_eq_true (by decide)))<|(gv)<|(g4) ?_
 refine zA (cells 98 [pV (.bool false), pI .u8 32 (fun _ => 0), pV (.int .u64 0), pI .u8 32 (fun _ => 0), pI .u8 32 (fun _ => 0)]) (Ub 35 rfl) (Uu 35 rfl) z0b rfl (by kernel_rfl) rfl ?_
 refine (Qm)<|(jk) ?_
 exact ⟨_, _, _, rfl, yb 1, yt, yt⟩
theorem z2S (o : Bool) (k : NN) (n : Nat) (ch h : NN) (vt : Value) (hn : n = 18446744073709551615) : Fp (IVB :: G) 33 #[.bool o, SV true k n ch h, vt] (.tuple #[(.agg (cells 98 [pV (.bool false), pI .u8 32 (fun _ => 0), pV (.int .u64 0), pI .u8 32 (fun _ => 0), pI .u8 32 (fun _ => 0)])), yg, ii 11]) := by
 refine Qf3 Tryz.func33 ?_
 refine (g4)<|(Qh 0) fun r1=>(QH 1) fun r2=>(g8)<|(gr)<|(Qm)<|(Qf 0)<|(QlK 0 0 3) ?_
 refine (Av (CV true k n))<|(Qf 66)<|(Qsa 0 32)<|(Qm) ?_
 refine zg rfl rfl (Un 55) z5L (zaQ (G := []) o k n _ _ hn) rfl rfl ?_
 refine (jn)<|(QH 2) fun r3=>(QW 2)<|(ja)<|(QN) ?_
 refine (Ab (decide_eq_true (by decide)))<|(gv)<|(g4) ?_
 refine zA (cells 98 [pV (.bool false), pI .u8 32 (fun _ => 0), pV (.int .u64 0), pI .u8 32 (fun _ => 0), pI .u8 32 (fun _ => 0)]) (Ub 35 rfl) (Uu 35 rfl) z0b rfl (by kernel_rfl) rfl ?_
 refine (Qm)<|(jk) ?_
 exact ⟨_, _, _, rfl, yb 1, yt, yt⟩
theorem Xu (k : NN) (n : Nat) (ch h : NN) (vt : Value) (tx : LN) (hvt : Sh (IVB :: G) vt tx) (hn : n < 18446744073709551615) (e : Nat) (he : e ≠ 0) (hE : ∀ (G2 : Mem) (va : Value), Sh G2 va ((List.range 32).map h) → Sh G2 vt tx → Fp G2 99 #[.agg (arr .u8 32 k), .agg (arr .u8 12 (wb n)), va, vt] (.tuple #[yg, ii e])) : Fp (IVB :: G) 33 #[.bool false, SV true k n ch h, vt] (.tuple #[(.agg (cells 98 [pV (.bool false), pI .u8 32 (fun _ => 0), pV (.int .u64 0), pI .u8 32 (fun _ => 0), pI .u8 32 (fun _ => 0)])), yg, ii e]) := by
 refine Qf3 Tryz.func33 ?_
 refine (g4)<|(Qh 0) fun r1=>(QH 1) fun r2=>(g8)<|(gr)<|(Qm)<|(Qf 0)<|(QlK 0 0 3) ?_
 refine (Av (CV true k n))<|(Qf 66)<|(Qsa 0 32)<|(Qm) ?_
 refine zg rfl rfl (Un 55) (zf (zZ 0 rfl ⟨[], trivial⟩) ze) (z07 (G := ([⟨r1, cS true k n ch h, 35⟩] ++ (IVB :: G))) k n _ _ hn e he (hE ([⟨r1, cS true k n ch h, 35⟩] ++ (IVB :: G)) _ ((vV r1 4 35 h rfl (Nat.le_of_ble_eq_true rfl) (Nat.le_of_ble_eq_true rfl)).mono (fun x h => List.mem_append_left _ h)) (hvt.mono (fun x h => List.mem_append_right _ h)))) rfl rfl ?_
 refine (jn)<|(QH 2) fun r3=>(QW 2)<|(ja)<|(QN)<|(Qat)<|(gv)<|(g4) ?_
 refine zA (cells 98 [pV (.bool false), pI .u8 32 (fun _ => 0), pV (.int .u64 0), pI .u8 32 (fun _ => 0), pI .u8 32 (fun _ => 0)]) (Ub 35 rfl) (Uu 35 rfl) z0b rfl (by kernel_rfl) rfl ?_
 refine (Qm)<|(jk) ?_
 exact ⟨_, _, _, rfl, yb 1, yt, yt⟩
theorem YN (k : NN) (n : Nat) (ch h : NN) (vt : Value) (tx : LN) (hvt : Sh (IVB :: G) vt tx) (htb : By tx) (hok : okC false k n = true) (hl : tx.length ≤ 800) (hh : L8 32 h) : Fp (IVB :: G) 33 #[.bool false, SV false k n ch h, vt] (.tuple #[SV false k n ch (hx h tx), vt, ii 0]) := by
 refine Qf3 Tryz.func33 ?_
 refine (g4)<|(Qh 0) fun r1=>(QH 1) fun r2=>(g8)<|(gr)<|(Qm)<|(Qf 0)<|(QlK 0 0 3) ?_
 refine (Av (CV false k n))<|(Qf 66)<|(Qsa 0 32)<|(Qm) ?_
 refine zg rfl rfl (Un 55) ze (z6N (G := IVB :: G) false k n _ _ tx hvt hok hl) rfl rfl ?_
 refine (jn)<|(QH 2) fun r3=>(QW 2)<|(ja)<|(QN) ?_
 refine z6 (congrArg Value.bool (decide_eq_false (fun h => h rfl))) ?_
 refine (go)<|(g4)<|(QD 2)<|(Qf 0)<|(QtK 0 0 3)<|Qn<|(ge)<|(go)<|(gd) ?_
 refine (Av (SV false k n ch h))<|(Qm) ?_
 refine zE (l := tx) hvt ze (Uu 22) (Uu 5) (Uu 9) rfl rfl rfl ?_
 refine (Ca (Zz false k n ch h tx htb (by omega) hh))<|(Qm)<|(jk) ?_
 exact ⟨_, _, _, rfl, yb 1, yt, yt⟩
theorem Wv (k : NN) (n : Nat) (ch h : NN) (vt : Value) (tx out : LN) (hvt : Sh (IVB :: G) vt tx) (hob : By out) (hol : out.length ≤ 1000) (hn : n < 18446744073709551615) (hh : L8 32 h) (hE : ∀ (G2 : Mem) (va : Value), Sh G2 va ((List.range 32).map h) → Sh G2 vt tx → Fq G2 [] 99 #[.agg (arr .u8 32 k), .agg (arr .u8 12 (wb n)), va, vt] (R2 5 out)) : Fq (IVB :: G) [] 33 #[.bool false, SV true k n ch h, vt] (fun v l1 nw => l1 = [] ∧ ∃ v', v = .tuple #[SV true k (n + 1) ch (hx h out), v', ii 0] ∧ OwnS 5 1 v' out.length (out.map by8) nw) := by
 refine QfO Tryz.func33 ?_
 refine (g4)<|(Qh 0) fun r1=>(QH 1) fun r2=>(g8)<|Qs<|(Qq ⟨[], 4, [], none, none⟩)<|(Qm)<|(Qf 0)<|(QlK 0 0 3) ?_
 refine (Av (CV true k n))<|(Qf 66)<|(Qsa 0 32)<|(Qm) ?_
 refine zG 2 (fun v => .tuple #[CV true k (n + 1), v, ii 0]) rfl rfl (Un 55) (zf (zZ 0 rfl ⟨[], trivial⟩) ze) (z1l (G := ([⟨r1, cS true k n ch h, 35⟩] ++ (IVB :: G))) k n _ _ hn out (by simp only [maxLen]; omega) (hE ([⟨r1, cS true k n ch h, 35⟩] ++ (IVB :: G)) _ ((vV r1 4 35 h rfl (Nat.le_of_ble_eq_true rfl) (Nat.le_of_ble_eq_true rfl)).mono (fun x h => List.mem_append_left _ h)) (hvt.mono (fun x h => List.mem_append_right _ h)))) (by simp only [maxLen]; omega) (by rw [List.length_map, Nat.mul_one]) rfl rfl fun v1_1 oz1_1 ho1_1 => ?_
 refine (jn)<|(QH 3) fun r4=>(QW 3)<|(ja)<|(QN) ?_
 refine z6 (congrArg Value.bool (decide_eq_false (fun h => h rfl))) ?_
 refine (go)<|(g4)<|(QD 3)<|(Qf 0)<|(QtK 0 0 3)<|Qn<|(ge)<|(go)<|(gd) ?_
 refine (Av (SV true k (n + 1) ch h))<|(Qm) ?_
 refine zE (l := out) (zY ho1_1) (zL 2 rfl ⟨[], trivial⟩) (Uu 22) (Uu 5) (Uu 9) rfl rfl rfl ?_
 refine (Ca (Zz true k (n + 1) ch h out hob (by omega) hh))<|(Qm)<|(jk) ?_
 exact ⟨_, _, _, _, _, 2, rfl, yb 1, yt, yt, ho1_1, rfl⟩
theorem Yj {G : Mem} (hI : IVB ∈ G) (y : SY) (hy : okY y) (vt : Value) (tx : LN) (hvt : Sh G vt tx) (htb : By tx) (w : Nat × SY × LN) (hw : yL y tx = w) :
  (w.1 ≠ 0 → Fn Tryz.prog G 33 #[.bool false, SVy y, vt] (.tuple #[SVy w.2.1, yg, ii w.1])) ∧ (w.1 = 0 → y.1 = true → Fx Tryz.prog G [] 33 #[.bool false, SVy y, vt] (fun v l1 nw => l1 = [] ∧ ∃ v', v = .tuple #[SVy w.2.1, v', ii 0] ∧ OwnS 5 1 v' w.2.2.length (w.2.2.map by8) nw)) ∧ (w.1 = 0 → y.1 = false → w.2.2 = tx ∧ Fn Tryz.prog G 33 #[.bool false, SVy y, vt] (.tuple #[SVy w.2.1, vt, ii 0])) := by
 obtain ⟨has, k, n, ch, h⟩ := y
 obtain ⟨hk, hn, hc, hh⟩ := hy
 have hv2 : Shows (IVB :: G) 1 vt tx.length (tx.map by8) := hvt.mono fun _ hx => List.mem_cons_of_mem _ hx
 have hk : ∀ j, j < 32 → k j < 256 := hk
 have hn : n < 18446744073709551616 := hn
 have hh : ∀ j, j < 32 → h j < 256 := hh
 by_cases hok : okC has k n = false
 ·obtain rfl : w = (9, SYZ, []) := by rw [← hw]; exact if_pos hok
  exact ⟨fun _ => (z5n (G := G) false has k n ch h vt hok).more (in1 hI), fun h0 => absurd h0 z6l, fun h0 => absurd h0 z6l⟩
 have hok2 : okC has k n = true := by simpa using hok
 cases has
 ·by_cases hl : 800 < tx.length
  ·obtain rfl : w = (1, SYZ, []) := by rw [← hw]; exact (if_neg hok).trans ((if_pos rfl).trans (if_pos hl))
   exact ⟨fun _ => (z3o (G := G) false k n ch h vt tx hv2 hok2 hl).more (in1 hI), fun h0 => absurd h0 WO, fun h0 => absurd h0 WO⟩
  ·obtain rfl : w = (0, Yb (false, k, n, ch, h) tx, tx) := by rw [← hw]; exact (if_neg hok).trans ((if_pos rfl).trans (if_neg hl))
   exact ⟨fun h0 => absurd rfl h0, fun _ h0 => (by cases h0), fun _ _ => ⟨rfl, (YN (G := G) k n ch h vt tx hv2 htb hok2 (by omega) hh).more (in1 hI)⟩⟩
 have ht : ¬ true = false := by decide
 by_cases hov : n = 18446744073709551615
 ·obtain rfl : w = (11, SYZ, []) := by rw [← hw]; exact (if_neg hok).trans ((if_neg ht).trans (if_pos hov))
  exact ⟨fun _ => (z2S (G := G) false k n ch h vt hov).more (in1 hI), fun h0 => absurd h0 Wy, fun h0 => absurd h0 Wy⟩
 have hn1 : n < 18446744073709551615 := by omega
 by_cases h2 : 800 < tx.length
 ·obtain rfl : w = (1, SYZ, []) := by rw [← hw]; exact (if_neg hok).trans ((if_neg ht).trans ((if_neg hov).trans (if_pos h2)))
  exact ⟨fun _ => (Xu (G := G) k n ch h vt tx hv2 hn1 1 (by decide) (fun G2 va ha ht => z4A k (wb n) va vt (ky h) tx ha ht (by simp) h2)).more (in1 hI), fun h0 => absurd h0 WO, fun h0 => absurd h0 WO⟩
 obtain rfl : w = (0, (true, k, n + 1, ch, hx h (ve k (wb n) (ky h) tx)), ve k (wb n) (ky h) tx) := by rw [← hw]; exact (if_neg hok).trans ((if_neg ht).trans ((if_neg hov).trans (if_neg h2)))
 exact ⟨fun h0 => absurd rfl h0, fun _ _ => (Wv (G := G) k n ch h vt tx _ hv2 (Wi _ _ _ _) (by rw [wF]; omega) hn1 hh (fun G2 va ha ht => zb0 k (wb n) va vt (ky h) tx hk (z8R n) ha ht (xK hh) (by simp) (by omega))).wide (in1 hI), fun _ h0 => (by cases h0)⟩
theorem Xo (hI : IVB ∈ G) (b : LN) (l : Bool) (vp v0 v1 vt : Value) (fi : Bool) (tn : Int) (dd : Bool) (y : SY) (r : RS) (ow : NN) (vk : Value) (us : Int) (f : NN) (ps : List (NN)) (hk : Shows G 32 vk ps.length (psC ps)) (h1 : xU vp v0 v1 vt vk) (hy : okY y) (hf : B32 f) : Fp G 32 #[.agg (shC b l vp v0 v1 vt fi tn dd y ow r vk us), .agg (arr .u8 32 f)] (.agg (shC b l vp v0 v1 vt fi tn dd (xk (npk ps) y f) ow r vk us)) := by
 obtain ⟨z, hz⟩ : ∃ z, z = xk (npk ps) y f := ⟨_, rfl⟩
 obtain ⟨y2, hy2⟩ : ∃ y2, y2 = Yb y (ky f) := ⟨_, rfl⟩
 have hyb : okY y2 := by rw [hy2]; exact Y7 hy _
 rw [← hz]
 refine Qf1 Tryz.func32 ?_
 refine (g4)<|(Qh 0) fun r1=>(Qh 1) fun r2=>(QH 2) fun r3=>(jf)<|(gy) ?_
 refine (Av (SVy y))<|(Qd 1) ?_
 refine (Ca (xe f)) ?_
 refine (Ca ((Zz (G := G) y.1 y.2.1 y.2.2.1 y.2.2.2.1 y.2.2.2.2 (ky f) (xK hf) (by simp) hy.2.2.2).more (in1 hI))) ?_
 refine z6 (show _ = SVy y2 by rw [hy2]; rfl) ?_
 refine (j7) ?_
 refine yM (c' := shC b l vp v0 v1 vt fi tn dd y2 ow r vk us) rfl ?_
 refine Qn<|(gs)<|(Qf 238)<|(QV 21 0)<|(QC hk)<|(QG)<|Qn ?_
 refine (Qcd) (fun hc0=>?_) fun hc0=>?_
 ·have hz3 : z = X6 y2 (ky f) := by rw [hz, xk, if_pos (by show npk ps = true; exact decide_eq_true (by omega)), ← hy2]
  refine (Qg)<|(gy) ?_
  refine (Av (SVy y2))<|(Qd 1) ?_
  refine (Ca (xe f)) ?_
  refine (Ca ((z2B (G := G) y2.1 y2.2.1 y2.2.2.1 y2.2.2.2.1 y2.2.2.2.2 (ky f) (xK hf) (by simp) hyb.2.2.1).more (in1 hI))) ?_
  refine z6 (show _ = SVy z by rw [hz3]; rfl) ?_
  refine (j7) ?_
  refine yM (c' := shC b l vp v0 v1 vt fi tn dd z ow r vk us) rfl ?_
  refine Qn<|(gd) ?_
  refine z5 (i := 2) (Uz 37) rfl rfl (z3 _ _) (z7 ⟨fun _ => rfl, fun _ => rfl, fun _ => h1.1, fun _ => h1.2.1, fun _ => h1.2.2.1, fun _ => h1.2.2.2.1, fun _ => rfl, fun _ => rfl, fun _ => rfl, fun _ => rfl, fun _ => rfl, fun _ => rfl, fun _ => rfl, fun _ => rfl, fun _ => rfl, fun _ => rfl, fun _ => rfl, fun _ => rfl, fun _ => rfl, fun _ => rfl, fun _ => rfl, fun _ => h1.2.2.2.2, fun _ => rfl, trivial⟩) rfl za (.inl rfl) ?_
  refine Qn<|Qr ?_
  exact ⟨_, rfl, yb 2⟩
 ·obtain rfl : z = y2 := by rw [hz, xk, if_neg (by show ¬ npk ps = true; rw [npk, decide_eq_false (by omega)]; decide), ← hy2]
  refine Qk<|(gd) ?_
  refine z5 (i := 2) (Uz 37) rfl rfl (z3 _ _) (z7 ⟨fun _ => rfl, fun _ => rfl, fun _ => h1.1, fun _ => h1.2.1, fun _ => h1.2.2.1, fun _ => h1.2.2.2.1, fun _ => rfl, fun _ => rfl, fun _ => rfl, fun _ => rfl, fun _ => rfl, fun _ => rfl, fun _ => rfl, fun _ => rfl, fun _ => rfl, fun _ => rfl, fun _ => rfl, fun _ => rfl, fun _ => rfl, fun _ => rfl, fun _ => rfl, fun _ => h1.2.2.2.2, fun _ => rfl, trivial⟩) rfl za (.inl rfl) ?_
  refine Qn<|Qr ?_
  exact ⟨_, rfl, yb 2⟩
theorem z35 (b : LN) (l : Bool) (vp v0 v1 vt : Value) (fi : Bool) (tn : Int) (dd : Bool) (y : SY) (r : RS) (ow : NN) (vk : Value) (us : Int) (e : Nat) (h1 : xU vp v0 v1 vt vk) : Fp G 35 #[.agg (shC b l vp v0 v1 vt fi tn dd y ow r vk us), ii e] (.tuple #[.agg (shC b l vp v0 v1 vt fi tn true y ow r vk us), yg, ii e]) := by
 refine Qf3 Tryz.func35 ?_
 refine (g4)<|(Qh 0) fun r1=>(QH 1) fun r2=>(g8)<|(g4)<|(Qf 8)<|(QtV 0 8)<|Qn<|(gd)<|(Qm) ?_
 refine z5 (i := 1) (Uz 37) rfl rfl (z3 _ _) (z7 ⟨fun _ => rfl, fun _ => rfl, fun _ => h1.1, fun _ => h1.2.1, fun _ => h1.2.2.1, fun _ => h1.2.2.2.1, fun _ => rfl, fun _ => rfl, fun _ => rfl, fun _ => rfl, fun _ => rfl, fun _ => rfl, fun _ => rfl, fun _ => rfl, fun _ => rfl, fun _ => rfl, fun _ => rfl, fun _ => rfl, fun _ => rfl, fun _ => rfl, fun _ => rfl, fun _ => h1.2.2.2.2, fun _ => rfl, trivial⟩) rfl za (.inl rfl) ?_
 refine (h8) ?_
 exact ⟨_, _, _, rfl, yb 1, yt, yt⟩
theorem VA (a b : Nat) (ha : a < 2 ^ 256) (hb : b < 2 ^ 256) : Fp G 207 #[fe a, fe b] (.tuple #[fe ((a + b) % 2 ^ 256), u ((a + b) / 2 ^ 256)]) := by
 have hfin : car a b 4 = (a + b) / 2 ^ 256 := by
  unfold car
  rw [Nat.mod_eq_of_lt (show a < 2 ^ (64 * 4) from ha), Nat.mod_eq_of_lt (show b < 2 ^ (64 * 4) from hb)]
 refine Qf2 Tryz.func207 ?_
 refine (g4)<|(Qh 0) fun r1=>(Qh 1) fun r2=>(QH 2) fun r3=>(j3)<|(QH 3) fun r4=>Qn<|(gc)<|(ji) ?_
 refine Qz (fun kk E m => ∃ (k : Nat) (s : Nat → Nat), kk = 4 - k ∧ E = [(2, ptr r1), (3, ptr r2), (4, ptr r3), (6, ptr r4), (7, u (car a b k)), (9, ii k)] ∧ m = [(0, some ⟨r1, arr .u64 4 (wd a), 127⟩), (1, some ⟨r2, arr .u64 4 (wd b), 127⟩), (2, some ⟨r3, arr .u64 4 (fun _ => 0), 127⟩), (3, some ⟨r4, arr .u64 4 s, 127⟩)] ∧ (k ≤ 4) ∧ (∀ j, j < k → s j = wd (a + b) j)) ⟨0, fun _ => 0, rfl, rfl, rfl, by omega, fun j hj => absurd hj (Nat.not_lt_zero j)⟩ ⟨rfl, rfl, rfl, rfl, by rw [z3X]; rfl, rfl, trivial⟩ ⟨rfl, rfl, rfl, rfl, trivial⟩ ?_
 rintro kk E m ⟨k, s, rfl, rfl, rfl, hf0_0, hf0_1⟩
 have hcl := zeR a b k
 refine (gq) ?_
 refine (Qcd) (fun hc0=>?_) fun hc0=>?_
 ·refine Qk<|Qs<|Qb<|Qs<|Qp<|(Qm)<|(Qa)<|Qn<|(Qq ⟨[r4], 1, [], none, none⟩)<|(Qm)<|(Qm)<|(Qi) ?_
  refine y7 (i := 0) (Uu 31) rfl rfl rfl (zO (by omega)) rfl ⟨[3], rfl, rfl, trivial⟩ ?_
  refine (Qm)<|(Qi) ?_
  refine y7 (i := 1) (Uu 31) rfl rfl rfl (zO (by omega)) rfl ⟨[3], rfl, rfl, trivial⟩ ?_
  refine (Qm) ?_
  refine Z6 rfl (fun w => z2l _ _ _ (by omega) w) rfl rfl ?_
  refine (gi)<|(Qi) ?_
  refine xT (i := 3) (Uz 31) rfl rfl rfl (by omega) (.inr (by simp)) ?_
  refine (jb) ?_
  refine Qzr ⟨k + 1, upd s k _, rfl, rfl, rfl, by omega, yN hf0_1 (z1h a b k)⟩ ⟨rfl, rfl, rfl, rfl, by rw [← z55]; rfl, rfl, trivial⟩ ⟨rfl, rfl, rfl, rfl, trivial⟩ ?_
  omega
 ·refine Qe<|Qs<|Qp<|(Qd 3)<|(Qm)<|(Qt 2)<|(Qa)<|Qn<|Qr ?_
  have hk4 : k = 4 := by omega
  subst hk4
  rw [← hfin, z0h (fun j hj => (hf0_1 j hj).trans (WJ _ j hj).symm)]
  exact ⟨_, _, rfl, ya 2, yt⟩
theorem z0q (a b : Nat) (ha : a < 2 ^ 256) (hb : b < 2 ^ 256) : Fp G 208 #[fe a, fe b] (.tuple #[fe ((a + 2 ^ 256 - b) % 2 ^ 256), u (if a < b then 1 else 0)]) := by
 have hfin : bor a b 4 = if a < b then 1 else 0 := by
  unfold bor
  rw [Nat.mod_eq_of_lt (show a < 2 ^ (64 * 4) from ha), Nat.mod_eq_of_lt (show b < 2 ^ (64 * 4) from hb)]
 refine Qf2 Tryz.func208 ?_
 refine (g4)<|(Qh 0) fun r1=>(Qh 1) fun r2=>(QH 2) fun r3=>(j3)<|(QH 3) fun r4=>Qn<|(gc)<|(ji) ?_
 refine Qz (fun kk E m => ∃ (k : Nat) (s : Nat → Nat), kk = 4 - k ∧ E = [(2, ptr r1), (3, ptr r2), (4, ptr r3), (6, ptr r4), (7, u (bor a b k)), (9, ii k)] ∧ m = [(0, some ⟨r1, arr .u64 4 (wd a), 127⟩), (1, some ⟨r2, arr .u64 4 (wd b), 127⟩), (2, some ⟨r3, arr .u64 4 (fun _ => 0), 127⟩), (3, some ⟨r4, arr .u64 4 s, 127⟩)] ∧ (k ≤ 4) ∧ (∀ j, j < k → s j = wd (a + 2 ^ 256 - b) j)) ⟨0, fun _ => 0, rfl, rfl, rfl, by omega, fun j hj => absurd hj (Nat.not_lt_zero j)⟩ ⟨rfl, rfl, rfl, rfl, by rw [z58]; rfl, rfl, trivial⟩ ⟨rfl, rfl, rfl, rfl, trivial⟩ ?_
 rintro kk E m ⟨k, s, rfl, rfl, rfl, hf0_0, hf0_1⟩
 have hcl := z6u a b k
 have hwl := y9 b k
 refine (gq) ?_
 refine (Qcd) (fun hc0=>?_) fun hc0=>?_
 ·refine Qk<|Qs<|Qb<|Qs<|Qp<|(Qm)<|(Qa)<|Qn<|(Qq ⟨[r4], 1, [], none, none⟩)<|(Qm)<|(Qm)<|(Qi) ?_
  refine y7 (i := 0) (Uu 31) rfl rfl rfl (zO (by omega)) rfl ⟨[3], rfl, rfl, trivial⟩ ?_
  refine (Qm)<|(Qi) ?_
  refine y7 (i := 1) (Uu 31) rfl rfl rfl (zO (by omega)) rfl ⟨[3], rfl, rfl, trivial⟩ ?_
  refine (Qm) ?_
  refine Z6 rfl (fun w => zi6 _ _ _ (by omega) (by omega) w) rfl rfl ?_
  refine (gi)<|(Qi) ?_
  refine xT (i := 3) (Uz 31) rfl rfl rfl (by omega) (.inr (by simp)) ?_
  refine (jb) ?_
  refine Qzr ⟨k + 1, upd s k _, rfl, rfl, rfl, by omega, yN hf0_1 (z5K a b k (by omega) (by omega))⟩ ⟨rfl, rfl, rfl, rfl, by rw [← z5J]; rfl, rfl, trivial⟩ ⟨rfl, rfl, rfl, rfl, trivial⟩ ?_
  omega
 ·refine Qe<|Qs<|Qp<|(Qd 3)<|(Qm)<|(Qt 2)<|(Qa)<|Qn<|Qr ?_
  have hk4 : k = 4 := by omega
  subst hk4
  rw [← hfin, z0h (fun j hj => (hf0_1 j hj).trans (WJ _ j hj).symm)]
  exact ⟨_, _, rfl, ya 2, yt⟩
theorem XD : Fp G 209 #[] (fe PP) := by
 refine Qf1 Tryz.func209 ?_
 refine (g4)<|(QH 0) fun r1=>(gj) ?_
 refine zV (arr .u64 4 (wd PP)) (Ub 127 rfl) (Uu 127 rfl) (Uz 31 rfl) rfl (by kernel_rfl) rfl ?_
 refine (Qt 0)<|Qn<|Qr ?_
 exact ⟨_, rfl, ya 0⟩
theorem z42 (a n : Nat) (hn : n ≤ 1) : Fp G 210 #[fe a, u n] (fe (a * n)) := by
 refine Qf1 Tryz.func210 ?_
 refine (g4)<|(Qh 0) fun r1=>(QH 1) fun r2=>Qn<|(ji) ?_
 refine Qz (fun kk E m => ∃ (k : Nat) (s : Nat → Nat), kk = 4 - k ∧ E = [(2, ptr r1), (1, u n), (4, ptr r2), (6, ii k)] ∧ m = [(0, some ⟨r1, arr .u64 4 s, 127⟩), (1, some ⟨r2, arr .u64 4 (fun _ => 0), 127⟩)] ∧ (k ≤ 4) ∧ (∀ j, j < k → s j = wd (a * n) j) ∧ (∀ j, k ≤ j → s j = wd a j)) ⟨0, wd a, rfl, rfl, rfl, by omega, fun j hj => absurd hj (Nat.not_lt_zero j), fun j _ => rfl⟩ ⟨rfl, rfl, rfl, rfl, trivial⟩ ⟨rfl, rfl, trivial⟩ ?_
 rintro kk E m ⟨k, s, rfl, rfl, rfl, hf0_0, hf0_1, hf0_2⟩
 refine (gq) ?_
 refine (Qcd) (fun hc0=>?_) fun hc0=>?_
 ·refine Qk<|Qs<|Qb<|Qs<|Qp<|(Qm)<|(Qa)<|Qn<|Qp<|(Qm)<|(Qi)<|(Q1 0)<|(Qm) ?_
  refine z2U rfl rfl (by omega) ?_
  refine VG rfl rfl rfl  ?_
  refine (jj)<|(jc) ?_
  refine Qzr ⟨k + 1, upd s k _, rfl, rfl, rfl, by omega, yN hf0_1 (by rw [hf0_2 k (Nat.le_refl k)]; exact z4q a n k hn), YZ hf0_2⟩ ⟨rfl, rfl, rfl, rfl, trivial⟩ ⟨rfl, rfl, trivial⟩ ?_
  omega
 ·refine Qe<|Qs<|Qp<|(Qd 0)<|(Qt 1)<|Qn<|Qr ?_
  have hk4 : k = 4 := by omega
  subst hk4
  rw [z0h hf0_1]
  exact ⟨_, rfl, ya 1⟩
theorem wT (a : Nat) (ha : a < 2 ^ 256) : Fp G 214 #[fe a] (.bool (decide (a < PP))) := by
 have hPP := Ym
 refine Qf1 Tryz.func214 ?_
 refine (g4)<|(Qh 0) fun r1=>(g3)<|(gr)<|(Qd 0) ?_
 refine (Ca XD) ?_
 refine zd rfl (Un 208) (z0q _ _ (by omega) (by omega)) rfl rfl ?_
 refine (gi)<|(QH 1) fun r2=>(Qt 1)<|(gm)<|(Qc) ?_
 refine z6 (z8D _ _) ?_
 refine (gt) ?_
 exact ⟨_, rfl, yt⟩
theorem z3G (a ov : Nat) (ha : a < 2 ^ 256) (ho : ov < 2 ^ 50) : Fp G 180 #[fe a, u ov] (fe ((a + ov * 2 ^ 256) % PP)) := by
 have hPP := Ym
 have h255 : a / 2 ^ 255 ≤ 1 := by omega
 have h256 := Nat.mod_lt a (show 0 < 2 ^ 255 from Nat.pow_pos (by decide))
 obtain ⟨Y, hY⟩ : ∃ Y, Y = a % 2 ^ 255 + (2 * ov + a / 2 ^ 255) * 19 := ⟨_, rfl⟩
 have hY2 : Y < 2 ^ 256 := by omega
 obtain ⟨t, ht⟩ : ∃ t, t = (if Y < PP then 1 else 0) := ⟨_, rfl⟩
 have hb1 : t ≤ 1 := by rw [ht]; split <;> omega
 have hb2 : PP * t < 2 ^ 256 := by rw [hPP]; omega
 have hY3 : (a % 2 ^ 255 + (2 * ov + a / 2 ^ 255) * 19) % 2 ^ 256 = Y := by rw [← hY]; exact Nat.mod_eq_of_lt hY2
 have hm1 := Nat.mod_lt (Y + 2 ^ 256 - PP) (show 0 < 2 ^ 256 from Nat.pow_pos (by decide))
 refine Qf1 Tryz.func180 ?_
 refine (g4)<|(Qh 0) fun r1=>(QH 1) fun r2=>Qn<|(g6) ?_
 refine w9 (s := 1) rfl rfl rfl (by omega) ?_
 refine (Qj 3)<|(Q1 0)<|(Q8 63) ?_
 refine v3 rfl rfl rfl  ?_
 refine (Au (zhN a ov ha ho))<|(j3)<|(Qj 3)<|(Q1 0)<|(Q9 9223372036854775807)<|(Qj 3)<|(Qu 0)<|(gj)<|(Qd 0) ?_
 refine z6 (z0h (z5Y a ha)).symm ?_
 refine (Qm) ?_
 refine xl (q := 19) rfl rfl rfl  ?_
 refine (Au (Nat.mod_eq_of_lt (show (2 * ov + a / 2 ^ 255) * 19 < 18446744073709551616 by omega))) ?_
 refine zV (arr .u64 4 (upd (fun _ => 0) 0 ((2 * ov + a / 2 ^ 255) * 19))) (Ub 127 rfl) (Uu 127 rfl) (Uz 31 rfl) rfl rfl rfl ?_
 refine z6 (z0d ((2 * ov + a / 2 ^ 255) * 19) (by omega)) ?_
 refine zd rfl (Un 207) (VA _ _ (by omega) (by omega)) rfl rfl ?_
 refine (Qm)<|(Qx) ?_
 refine z6 (congrArg fe hY3) ?_
 refine (Qx)<|(Qt 0)<|(jf)<|(Qd 0) ?_
 refine (Ca XD) ?_
 refine zd rfl (Un 208) (z0q _ _ (by omega) (by omega)) rfl rfl ?_
 refine (gi) ?_
 refine (Au ht.symm)<|(QH 2) fun r3=>(Qt 2)<|(g3)<|(gr)<|(Qd 2) ?_
 refine (Ca XD)<|(Qm) ?_
 refine zd rfl (Un 210) (z42 _ _ (by omega)) rfl rfl ?_
 refine zd rfl (Un 207) (VA _ _ (by omega) (by omega)) rfl rfl ?_
 refine (gi)<|(Qt 2)<|(gj)<|(Qd 2)<|(j4)<|Qr ?_
 rw [← zfT a ov Y ha ho hY, ← ht]
 exact ⟨_, rfl, ya 1⟩
theorem zhL (f : NN) (hf : L8 32 f) : Fp G 143 #[.agg (arr .u8 32 f)] (fe (vb f 32 % 2 ^ 255 % PP)) := by
 have hPP := Ym
 refine Qf1 Tryz.func143 ?_
 refine (g4)<|(Qh 0) fun r1=>(QH 1) fun r2=>(gj)<|(QH 2) fun r3=>Qn<|(ji) ?_
 refine Qz (fun kk E m => ∃ (k : Nat) (s : Nat → Nat), kk = 32 - k ∧ E = [(1, ptr r1), (2, ptr r2), (3, ptr r3), (5, ii k)] ∧ m = [(0, some ⟨r1, arr .u8 32 f, 23⟩), (1, some ⟨r2, arr .u64 4 (fun _ => 0), 127⟩), (2, some ⟨r3, arr .u64 4 s, 127⟩)] ∧ (k ≤ 32) ∧ (∀ j, j < 4 → s j = wd (vb f k) j)) ⟨0, fun _ => 0, rfl, rfl, rfl, by omega, fun j _ => by simp [vb, wd]⟩ ⟨rfl, rfl, rfl, rfl, trivial⟩ ⟨rfl, rfl, rfl, trivial⟩ ?_
 rintro kk E m ⟨k, s, rfl, rfl, rfl, hf0_0, hf0_1⟩
 refine (gq) ?_
 refine (Qcd) (fun hc0=>?_) fun hc0=>?_
 ·refine Qk<|Qs<|Qb<|Qs<|Qp<|(Qm)<|(Qa)<|Qn<|(Qg)<|(Qm)<|(Q5 8)<|(Qi)<|(Q1 2)<|(Qm)<|(Qi)<|(Q1 0) ?_
  refine xx (Uu 5) (Uu 31) rfl rfl rfl ?_
  refine (Qm)<|(Q4 8)<|(Q6 8) ?_
  refine w9 rfl rfl rfl (by omega) ?_
  refine v3 rfl rfl rfl  ?_
  refine (Qi)<|(Qu 2)<|(jc) ?_
  refine Qzr ⟨k + 1, upd s (k / 8) _, rfl, rfl, rfl, by omega, z2i f k s (by omega) hf hf0_1⟩ ⟨rfl, rfl, rfl, rfl, trivial⟩ ⟨rfl, rfl, rfl, trivial⟩ ?_
  omega
 ·have hk32 : k = 32 := by omega
  subst hk32
  have hA := zcg f s hf hf0_1
  refine (jo)<|(Qj 3)<|(Q1 2)<|(Q9 9223372036854775807)<|(Qj 3)<|(Qu 2)<|(gj)<|(Qd 2) ?_
  refine z6 hA ?_
  refine (Ca (z3G (vb f 32 % 2 ^ 255) 0 (by omega) (by omega)))<|(j4)<|Qr ?_
  rw [show vb f 32 % 2 ^ 255 % PP = (vb f 32 % 2 ^ 255 + 0 * 2 ^ 256) % PP by rw [Nat.zero_mul, Nat.add_zero]]
  exact ⟨_, rfl, ya 1⟩
theorem zfo (a : Nat) (ha : a < PP) : Fp G 185 #[fe a] (.tuple #[z0M a, ii 0]) := by
 have hPP := Ym
 refine Qf2 Tryz.func185 ?_
 refine (g4)<|(Qh 0) fun r1=>(QH 1) fun r2=>(g3)<|(gs)<|(Qd 0) ?_
 refine zd rfl (Un 214) (wT _ (by omega)) rfl rfl ?_
 refine (Q0)<|Qn ?_
 refine zi rfl ?_ ?_
 ·intro hc0
  simp [ha] at hc0
 ·intro hc0
  refine Qk<|(g4)<|(QH 2) fun r3=>Qn<|(ji) ?_
  refine Qz (fun kk E m => ∃ (k : Nat) (s : Nat → Nat), kk = 32 - k ∧ E = [(1, ptr r1), (2, ptr r2), (4, ptr r3), (10, ii k)] ∧ m = [(0, some ⟨r1, arr .u64 4 (wd a), 127⟩), (1, some ⟨r2, arr .u8 32 (fun _ => 0), 23⟩), (2, some ⟨r3, arr .u8 32 s, 23⟩)] ∧ (k ≤ 32) ∧ (∀ j, j < k → s j = bt a j)) ⟨0, fun _ => 0, rfl, rfl, rfl, by omega, fun j hj => absurd hj (Nat.not_lt_zero j)⟩ ⟨rfl, rfl, rfl, rfl, trivial⟩ ⟨rfl, rfl, rfl, trivial⟩ ?_
  rintro kk E m ⟨k, s, rfl, rfl, rfl, hf0_0, hf0_1⟩
  refine (gq) ?_
  refine (Qcd) (fun hc1=>?_) fun hc1=>?_
  ·refine Qk<|Qs<|Qb<|Qs<|Qp<|(Qm)<|(Qa)<|Qn<|Qp<|(Qm)<|(Qm)<|(Q5 8)<|(Qi)<|(Q1 0)<|(Qm)<|(Q4 8)<|(Q6 8) ?_
   refine Yq rfl rfl rfl (by omega) ?_
   refine yY (Uu 31) (Uu 5) rfl rfl rfl ?_
   refine (Qi)<|(Qu 2)<|(jc) ?_
   refine Qzr ⟨k + 1, upd s k _, rfl, rfl, rfl, by omega, yN hf0_1 (z3s a k)⟩ ⟨rfl, rfl, rfl, rfl, trivial⟩ ⟨rfl, rfl, rfl, trivial⟩ ?_
   omega
  ·refine Qe<|Qs<|Qp<|(Qd 2)<|(Qt 1)<|(Qa)<|Qn<|Qr ?_
   have hk32 : k = 32 := by omega
   subst hk32
   rw [← z4f hf0_1]
   exact ⟨_, _, rfl, ya 1, yt⟩
theorem z61 (x y : Nat) (hx : x < 18446744073709551616) (hy : y < 18446744073709551616) : Fp G 256 #[u x, u y] (.tuple #[u (x * y / 18446744073709551616), u (x * y % 18446744073709551616)]) := by
 refine Qf2 Tryz.func256 ?_
 refine (g4)<|(g8)<|(g6)<|(Q9 4294967295)<|(gm)<|(Q8 32)<|(gm)<|(Q9 4294967295)<|(gm)<|(Q8 32)<|(gm)<|(Qm) ?_
 refine xl rfl rfl rfl  ?_
 refine (gm)<|(Qm) ?_
 refine xl rfl rfl rfl  ?_
 refine (Qm)<|(Q8 32)<|(Qau)<|(gm)<|(Q9 4294967295)<|(gm)<|(Q8 32)<|(gm)<|(gb) ?_
 refine xl rfl rfl rfl  ?_
 refine (Qau)<|(gm)<|(Qm) ?_
 refine xl rfl rfl rfl  ?_
 refine (Qm)<|(Qau)<|(Qm)<|(Q8 32)<|(Qau)<|(gm)<|(Qm) ?_
 refine xl rfl rfl rfl  ?_
 refine (gt) ?_
 rw [← zcQ x y hx hy]
 exact ⟨_, _, rfl, yt, yt⟩
end Go.Proofs.YtlidhfijmcelpaaGreatDoor
