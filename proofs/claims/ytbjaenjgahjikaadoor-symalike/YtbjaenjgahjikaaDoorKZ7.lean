import Derived.Test.YtbjaenjgahjikaaDoorKZ6
import Derived.Test.YtbjaenjgahjikaaDoorRows
namespace Go.Proofs.YtbjaenjgahjikaaDoor
open Go Go.RowKit
variable {G : Mem}
set_option maxHeartbeats 400000 in
theorem rotn16_fn (x : Nat) : Fn Tryd.prog G 101 #[uw x, .int .i64 (-16)] (uw (rotl x 16)) := by
  refine Qf1 Tryd.func101 ?_
  refine Qs<|Qp<|(Qa)<|Qn<|Qs<|Qp<|(Qm) ?_
  refine e_conv_uz (Uu 3) (Uu 137) rfl rfl rfl ?_
  refine e_as (show _ = u 18446744073709551600 from rfl) ?_
  refine (Q9 31) ?_
  refine e_as (show _ = u 16 from rfl) ?_
  refine (Qa)<|Qn<|Qs<|Qp<|(Qm)<|(Qm) ?_
  refine e_shl_w rfl rfl rfl (by omega) ?_
  refine (Qm)<|(Qm) ?_
  refine e_sub_u (p := 32) rfl rfl rfl (by omega) ?_
  refine e_as (show _ = u 16 from rfl) ?_
  refine e_shr_w rfl rfl rfl (by omega) ?_
  refine e_or_w rfl rfl rfl  ?_
  refine (Qa)<|Qn<|Qr ?_
  exact ⟨_, rfl, .tmp rfl⟩
set_option maxHeartbeats 400000 in
theorem rotn12_fn (x : Nat) : Fn Tryd.prog G 101 #[uw x, .int .i64 (-12)] (uw (rotl x 20)) := by
  refine Qf1 Tryd.func101 ?_
  refine Qs<|Qp<|(Qa)<|Qn<|Qs<|Qp<|(Qm) ?_
  refine e_conv_uz (Uu 3) (Uu 137) rfl rfl rfl ?_
  refine e_as (show _ = u 18446744073709551604 from rfl) ?_
  refine (Q9 31) ?_
  refine e_as (show _ = u 20 from rfl) ?_
  refine (Qa)<|Qn<|Qs<|Qp<|(Qm)<|(Qm) ?_
  refine e_shl_w rfl rfl rfl (by omega) ?_
  refine (Qm)<|(Qm) ?_
  refine e_sub_u (p := 32) rfl rfl rfl (by omega) ?_
  refine e_as (show _ = u 12 from rfl) ?_
  refine e_shr_w rfl rfl rfl (by omega) ?_
  refine e_or_w rfl rfl rfl  ?_
  refine (Qa)<|Qn<|Qr ?_
  exact ⟨_, rfl, .tmp rfl⟩
set_option maxHeartbeats 400000 in
theorem rotn8_fn (x : Nat) : Fn Tryd.prog G 101 #[uw x, .int .i64 (-8)] (uw (rotl x 24)) := by
  refine Qf1 Tryd.func101 ?_
  refine Qs<|Qp<|(Qa)<|Qn<|Qs<|Qp<|(Qm) ?_
  refine e_conv_uz (Uu 3) (Uu 137) rfl rfl rfl ?_
  refine e_as (show _ = u 18446744073709551608 from rfl) ?_
  refine (Q9 31) ?_
  refine e_as (show _ = u 24 from rfl) ?_
  refine (Qa)<|Qn<|Qs<|Qp<|(Qm)<|(Qm) ?_
  refine e_shl_w rfl rfl rfl (by omega) ?_
  refine (Qm)<|(Qm) ?_
  refine e_sub_u (p := 32) rfl rfl rfl (by omega) ?_
  refine e_as (show _ = u 8 from rfl) ?_
  refine e_shr_w rfl rfl rfl (by omega) ?_
  refine e_or_w rfl rfl rfl  ?_
  refine (Qa)<|Qn<|Qr ?_
  exact ⟨_, rfl, .tmp rfl⟩
set_option maxHeartbeats 400000 in
theorem rotn7_fn (x : Nat) : Fn Tryd.prog G 101 #[uw x, .int .i64 (-7)] (uw (rotl x 25)) := by
  refine Qf1 Tryd.func101 ?_
  refine Qs<|Qp<|(Qa)<|Qn<|Qs<|Qp<|(Qm) ?_
  refine e_conv_uz (Uu 3) (Uu 137) rfl rfl rfl ?_
  refine e_as (show _ = u 18446744073709551609 from rfl) ?_
  refine (Q9 31) ?_
  refine e_as (show _ = u 25 from rfl) ?_
  refine (Qa)<|Qn<|Qs<|Qp<|(Qm)<|(Qm) ?_
  refine e_shl_w rfl rfl rfl (by omega) ?_
  refine (Qm)<|(Qm) ?_
  refine e_sub_u (p := 32) rfl rfl rfl (by omega) ?_
  refine e_as (show _ = u 7 from rfl) ?_
  refine e_shr_w rfl rfl rfl (by omega) ?_
  refine e_or_w rfl rfl rfl  ?_
  refine (Qa)<|Qn<|Qr ?_
  exact ⟨_, rfl, .tmp rfl⟩
set_option maxHeartbeats 2000000 in
theorem mix_st (f : Nat → Nat) (r a b c d x y : Nat) (ha : a < 16) (hb : b < 16) (hc : c < 16) (hd : d < 16) : Fx Tryd.prog G [⟨r, arr .u32 16 f, 115⟩] 100 #[ii a, ii b, ii c, ii d, uw x, uw y, ptr r] (fun v l1 nw => v = .tuple #[] ∧ l1 = [⟨r, arr .u32 16 (mst f a b c d x y), 115⟩] ∧ nw = []) := by
  refine QfW Tryd.func100 ?_
  refine Qs<|(Qg)<|(Qm)<|(Qi)<|(Q1 0)<|(Qm)<|(Qi)<|(Q1 0)<|(Qm) ?_
  refine e_add_w rfl rfl rfl  ?_
  refine e_add_w rfl rfl rfl  ?_
  refine (Qi)<|(Qu 0)<|Qn<|Qs<|(Qg)<|(Qm)<|(Qm)<|(Qi)<|(Q1 0)<|(Qm)<|(Qi)<|(Q1 0) ?_
  refine e_xor_w rfl rfl rfl  ?_
  refine e_call rfl (Un 101) (rotn16_fn _) rfl rfl ?_
  refine (Qi)<|(Qu 0)<|Qn<|Qs<|(Qg)<|(Qm)<|(Qi)<|(Q1 0)<|(Qm)<|(Qi)<|(Q1 0) ?_
  refine e_add_w rfl rfl rfl  ?_
  refine (Qi)<|(Qu 0)<|Qn<|Qs<|(Qg)<|(Qm)<|(Qm)<|(Qi)<|(Q1 0)<|(Qm)<|(Qi)<|(Q1 0) ?_
  refine e_xor_w rfl rfl rfl  ?_
  refine e_call rfl (Un 101) (rotn12_fn _) rfl rfl ?_
  refine (Qi)<|(Qu 0)<|Qn<|Qs<|(Qg)<|(Qm)<|(Qi)<|(Q1 0)<|(Qm)<|(Qi)<|(Q1 0)<|(Qm) ?_
  refine e_add_w rfl rfl rfl  ?_
  refine e_add_w rfl rfl rfl  ?_
  refine (Qi)<|(Qu 0)<|Qn<|Qs<|(Qg)<|(Qm)<|(Qm)<|(Qi)<|(Q1 0)<|(Qm)<|(Qi)<|(Q1 0) ?_
  refine e_xor_w rfl rfl rfl  ?_
  refine e_call rfl (Un 101) (rotn8_fn _) rfl rfl ?_
  refine (Qi)<|(Qu 0)<|Qn<|Qs<|(Qg)<|(Qm)<|(Qi)<|(Q1 0)<|(Qm)<|(Qi)<|(Q1 0) ?_
  refine e_add_w rfl rfl rfl  ?_
  refine (Qi)<|(Qu 0)<|Qn<|(Qg)<|(Qm)<|(Qm)<|(Qi)<|(Q1 0)<|(Qm)<|(Qi)<|(Q1 0) ?_
  refine e_xor_w rfl rfl rfl  ?_
  refine e_call rfl (Un 101) (rotn7_fn _) rfl rfl ?_
  refine (Qi)<|(Qu 0)<|Qn ?_
  exact ⟨rfl, 0, rfl⟩
end Go.Proofs.YtbjaenjgahjikaaDoor
namespace Go.Proofs.YtbjaenjgahjikaaDoor
open Go Go.RowKit
theorem mix_fn {G : Mem} (f : Nat → Nat) (r a b c d x y : Nat) (ha : a < 16) (hb : b < 16) (hc : c < 16) (hd : d < 16) (ab : a ≠ b) (ac : a ≠ c) (ad : a ≠ d) (bc : b ≠ c) (bd : b ≠ d) (cd : c ≠ d) : Fx Tryd.prog G [⟨r, arr .u32 16 f, 115⟩] 100 #[ii a, ii b, ii c, ii d, uw x, uw y, ptr r] (fun v l1 nw => v = .tuple #[] ∧ l1 = [⟨r, arr .u32 16 (mat f a b c d x y), 115⟩] ∧ nw = []) := by
  rw [← mst_mat f x y ab ac ad bc bd cd]
  exact mix_st f r a b c d x y ha hb hc hd
abbrev DOR : Blk := ⟨1, arr .i64 160 sgf, 136⟩
variable {G : Mem}
set_option maxHeartbeats 4000000 in
theorem rounds6_fn (f g : Nat → Nat) : Fn Tryd.prog (DOR :: G) 85 #[.agg (arr .u32 16 f), .agg (arr .u32 16 g)] (.agg (arr .u32 16 (rndM g f 10))) := by
  refine Qf1 Tryd.func85 ?_
  refine Qs<|Qp<|(Qh 0) fun r1=>(Qh 1) fun r2=>(QH 2) fun r3=>Qn<|Qs<|Qp<|(QY)<|(Qa)<|Qn<|Qs<|Qs<|Qp<|(Qm)<|Qn<|Qb ?_
  refine QzK [(2, _), (3, _), (4, _), (5, _)] [(1, _), (2, _)] (fun kk E m => ∃ (r : Nat), kk = 10 - r ∧ E = [(10, ii r)] ∧ m = [(0, some ⟨r1, arr .u32 16 (rndM g f r), 115⟩)] ∧ (r ≤ 10)) ⟨0, rfl, rfl, rfl, by omega⟩ ⟨rfl, rfl, rfl, rfl, rfl, trivial⟩ ⟨(blk_arr (rndM_zero g f)), rfl, rfl, trivial⟩ ?_
  rintro kk E m ⟨r, rfl, rfl, rfl, hf0_0⟩
  simp only [catE, catL]
  refine Qs<|Qp<|(Ql)<|Qn<|Qs ?_
  refine e_cond rfl ?_ ?_
  · intro hc0
    have hc0 : r < 10 := by have := of_decide_eq_true hc0; omega
    refine Qk<|Qs<|Qb<|Qs<|Qp<|(Qm)<|(Qa)<|Qn<|Qs<|Qs<|Qp<|(Qm)<|Qn<|Qb ?_
    refine QzK [(2, _), (3, _), (4, _), (5, _), (6, _), (10, _)] [(1, _), (2, _)] (fun kk E m => ∃ (i : Nat), kk = 4 - i ∧ E = [(13, ii i)] ∧ m = [(0, some ⟨r1, arr .u32 16 (colM g r (rndM g f r) i), 115⟩)] ∧ (i ≤ 4)) ⟨0, rfl, rfl, rfl, by omega⟩ ⟨rfl, rfl, rfl, rfl, rfl, rfl, rfl, trivial⟩ ⟨(blk_arr (colM_zero g r (rndM g f r))), rfl, rfl, trivial⟩ ?_
    rintro kk E m ⟨i, rfl, rfl, rfl, hf1_0⟩
    simp only [catE, catL]
    refine Qs<|Qp<|(Ql)<|Qn<|Qs ?_
    refine e_cond rfl ?_ ?_
    · intro hc1
      have hc1 : i < 4 := by have := of_decide_eq_true hc1; omega
      refine Qk<|Qs<|Qb<|Qs<|Qp<|(Qm)<|(Qa)<|Qn<|(Qq ⟨[], 5, [], none⟩)<|(Qm)<|(Qm)<|(Qm) ?_
      refine e_add_i (p := 4) rfl rfl rfl (by omega) ?_
      refine (Qm) ?_
      refine e_add_i (p := 8) rfl rfl rfl (by omega) ?_
      refine (Qm) ?_
      refine e_add_i (p := 12) rfl rfl rfl (by omega) ?_
      refine (Qm)<|(Qm)<|(Q7 2)<|(QB (16 * r))<|(QB (16 * r + 2 * i)) ?_
      refine e_load1g (i := 0) (Uu 3) rfl rfl rfl (arr_get (by omega)) rfl ?_
      refine e_index0 (Uu 115) (Uz 63) rfl rfl (sig_lt r (2 * i)) rfl ?_
      refine e_load1 (i := 1) (Uu 63) rfl rfl rfl (arr_get (sig_lt r (2 * i))) rfl ⟨[], trivial⟩ ?_
      refine (Qm)<|(Qm)<|(Q7 2)<|(Q2 1)<|(QB (16 * r))<|(QB (16 * r + (2 * i + 1))) ?_
      refine e_load1g (i := 0) (Uu 3) rfl rfl rfl (arr_get (by omega)) rfl ?_
      refine e_index0 (Uu 115) (Uz 63) rfl rfl (sig_lt r (2 * i + 1)) rfl ?_
      refine e_load1 (i := 1) (Uu 63) rfl rfl rfl (arr_get (sig_lt r (2 * i + 1))) rfl ⟨[], trivial⟩ ?_
      refine e_callW 0 rfl rfl (Un 100) rfl (by simp) (mix_fn (G := []) (colM g r (rndM g f r) i) r1 i (4 + i) (8 + i) (12 + i) (g (sig r (2 * i))) (g (sig r (2 * i + 1))) (by omega) (by omega) (by omega) (by omega) (by omega) (by omega) (by omega) (by omega) (by omega) (by omega)) rfl rfl ?_
      refine Qn<|Qp<|(Q2 1)<|(Qm)<|Qn ?_
      refine QzL ⟨i + 1, rfl, rfl, rfl, by omega⟩ ⟨rfl, rfl, rfl, rfl, rfl, rfl, rfl, trivial⟩ ⟨(blk_arr (colM_succ g r (rndM g f r) i)), rfl, rfl, trivial⟩ ?_
      omega
    · intro hc1
      have hc1 := of_decide_eq_false hc1
      have hz1 : i = 4 := by omega
      refine Qe<|Qs<|Qp<|(Qm)<|Qn<|Qb ?_
      refine QzK [(2, _), (3, _), (4, _), (5, _), (6, _), (10, _), (13, _)] [(1, _), (2, _)] (fun kk E m => ∃ (j : Nat), kk = 4 - j ∧ E = [(43, ii j)] ∧ m = [(0, some ⟨r1, arr .u32 16 (diaM g r (colM g r (rndM g f r) 4) j), 115⟩)] ∧ (j ≤ 4)) ⟨0, rfl, rfl, rfl, by omega⟩ ⟨rfl, rfl, rfl, rfl, rfl, rfl, rfl, rfl, trivial⟩ ⟨(blk_arr ((congrArg (colM g r (rndM g f r)) hz1).trans (diaM_zero g r (colM g r (rndM g f r) 4)))), rfl, rfl, trivial⟩ ?_
      rintro kk E m ⟨j, rfl, rfl, rfl, hf2_0⟩
      simp only [catE, catL]
      refine Qs<|Qp<|(Ql)<|Qn<|Qs ?_
      refine e_cond rfl ?_ ?_
      · intro hc2
        have hc2 : j < 4 := by have := of_decide_eq_true hc2; omega
        refine Qk<|Qs<|Qb<|Qs<|Qp<|(Qm)<|(Qa)<|Qn<|(Qq ⟨[], 5, [], none⟩)<|(Qm)<|(Qm)<|(Qm)<|(Q2 1)<|(Q4 4) ?_
        refine e_add_i (p := 4) rfl rfl rfl (by omega) ?_
        refine (Qm)<|(Q2 2)<|(Q4 4) ?_
        refine e_add_i (p := 8) rfl rfl rfl (by omega) ?_
        refine (Qm)<|(Q2 3)<|(Q4 4) ?_
        refine e_add_i (p := 12) rfl rfl rfl (by omega) ?_
        refine (Qm)<|(Qm)<|(Q7 2) ?_
        refine e_add_i (p := 8) rfl rfl rfl (by omega) ?_
        refine (QB (16 * r))<|(QB (16 * r + (8 + 2 * j))) ?_
        refine e_load1g (i := 0) (Uu 3) rfl rfl rfl (arr_get (by omega)) rfl ?_
        refine e_index0 (Uu 115) (Uz 63) rfl rfl (sig_lt r (8 + 2 * j)) rfl ?_
        refine e_load1 (i := 1) (Uu 63) rfl rfl rfl (arr_get (sig_lt r (8 + 2 * j))) rfl ⟨[], trivial⟩ ?_
        refine (Qm)<|(Qm)<|(Q7 2) ?_
        refine e_add_i (p := 9) rfl rfl rfl (by omega) ?_
        refine (QB (16 * r))<|(QB (16 * r + (9 + 2 * j))) ?_
        refine e_load1g (i := 0) (Uu 3) rfl rfl rfl (arr_get (by omega)) rfl ?_
        refine e_index0 (Uu 115) (Uz 63) rfl rfl (sig_lt r (9 + 2 * j)) rfl ?_
        refine e_load1 (i := 1) (Uu 63) rfl rfl rfl (arr_get (sig_lt r (9 + 2 * j))) rfl ⟨[], trivial⟩ ?_
        refine e_callW 0 rfl rfl (Un 100) rfl (by simp) (mix_fn (G := []) (diaM g r (colM g r (rndM g f r) 4) j) r1 j (4 + (j + 1) % 4) (8 + (j + 2) % 4) (12 + (j + 3) % 4) (g (sig r (8 + 2 * j))) (g (sig r (9 + 2 * j))) (by omega) (by omega) (by omega) (by omega) (by omega) (by omega) (by omega) (by omega) (by omega) (by omega)) rfl rfl ?_
        refine Qn<|Qp<|(Q2 1)<|(Qm)<|Qn ?_
        refine QzL ⟨j + 1, rfl, rfl, rfl, by omega⟩ ⟨rfl, rfl, rfl, rfl, rfl, rfl, rfl, rfl, trivial⟩ ⟨(blk_arr (diaM_succ g r (colM g r (rndM g f r) 4) j)), rfl, rfl, trivial⟩ ?_
        omega
      · intro hc2
        have hc2 := of_decide_eq_false hc2
        have hz2 : j = 4 := by omega
        refine Qe<|Qp<|(Q2 1)<|(Qm)<|Qn ?_
        refine QzL ⟨r + 1, rfl, rfl, rfl, by omega⟩ ⟨rfl, rfl, rfl, rfl, rfl, trivial⟩ ⟨(blk_arr ((congrArg (diaM g r (colM g r (rndM g f r) 4)) hz2).trans (rndM_succ g f r))), rfl, rfl, trivial⟩ ?_
        omega
  · intro hc0
    have hc0 := of_decide_eq_false hc0
    have hz0 : r = 10 := by omega
    refine Qe<|Qs<|Qp<|(Qd 0)<|(Qt 2)<|Qn<|Qr ?_
    rw [show rndM g f 10 = rndM g f r by rw [hz0]]
    exact ⟨_, rfl, .cell (i := 2) rfl rfl (Uu 115) rfl (Uz 115) (arr_size _ _ _)⟩
set_option maxHeartbeats 2000000 in
theorem words_fn (d : Nat → Nat) (hd : L8 64 d) : Fn Tryd.prog G 87 #[.agg (arr .u8 64 d)] (.agg (arr .u32 16 (wrd ((List.range 64).map d)))) := by
  refine Qf1 Tryd.func87 ?_
  refine Qs<|Qp<|(Qh 0) fun r1=>(QH 1) fun r2=>Qn<|Qs<|Qp<|(QH 2) fun r3=>Qn<|Qs<|Qs<|Qp<|(Qd 0)<|(Qm)<|Qn<|Qb ?_
  refine QzK [(2, _), (3, _), (6, _)] [(0, _), (1, _)] (fun kk E m => ∃ (i : Nat) (s : Nat → Nat), kk = 64 - i ∧ E = [(7, ii i)] ∧ m = [(2, some ⟨r3, arr .u32 16 s, 115⟩)] ∧ (i ≤ 64) ∧ (∀ t, t < 16 → s t = pw d i t)) ⟨0, fun _ => 0, rfl, rfl, rfl, by omega, fun t _ => (pw_none d t).symm⟩ ⟨rfl, rfl, rfl, rfl, trivial⟩ ⟨rfl, rfl, rfl, trivial⟩ ?_
  rintro kk E m ⟨i, s, rfl, rfl, rfl, hf0_0, hf0_1⟩
  simp only [catE, catL]
  refine Qs<|Qp<|(Ql)<|Qn<|Qs ?_
  refine e_cond rfl ?_ ?_
  · intro hc0
    have hc0 : i < 64 := by have := of_decide_eq_true hc0; omega
    refine Qk<|Qs<|Qb<|Qs<|Qp<|(Qm)<|(QX)<|(Qa)<|(Qa)<|Qn<|(Qg)<|(Qm)<|(Q5 4)<|(Qi)<|(Q1 2)<|(Qm) ?_
    refine e_conv_w (Uu 5) (Uu 63) rfl rfl rfl ?_
    refine e_as (congrArg uw (Nat.mod_eq_of_lt (Nat.lt_trans (hd i (by omega)) (by decide)))) ?_
    refine (Qm)<|(Q4 4)<|(Q6 8) ?_
    refine e_shl_w rfl rfl rfl (by omega) ?_
    refine e_or_w rfl rfl rfl  ?_
    refine (Qi)<|(Qu 2)<|Qn<|Qp<|(Q2 1)<|(Qm)<|Qn ?_
    refine QzL ⟨i + 1, upd s (i / 4) _, rfl, rfl, rfl, by omega, words_step hd (by omega) hf0_1⟩ ⟨rfl, rfl, rfl, rfl, trivial⟩ ⟨rfl, rfl, rfl, trivial⟩ ?_
    omega
  · intro hc0
    have hc0 := of_decide_eq_false hc0
    have hz0 : i = 64 := by omega
    subst hz0
    refine Qe<|Qs<|Qp<|(Qd 2)<|(Qt 1)<|Qn<|Qr ?_
    rw [← arr_congr (k := .u32) (n := 16) (words_all d), ← arr_congr (k := .u32) (n := 16) hf0_1]
    exact ⟨_, rfl, .cell (i := 1) rfl rfl (Uu 115) rfl (Uz 115) (arr_size _ _ _)⟩
set_option maxHeartbeats 400000 in
theorem div_fn : Fn Tryd.prog G 71 #[] (.agg (arr .u32 8 ivf)) := by
  refine Qf1 Tryd.func71 ?_
  refine Qs<|Qp<|(QH 0) fun r1=>Qn<|Qs<|Qp ?_
  refine e_build (arr .u32 8 ivf) (Ub 64 rfl) (Uu 64 rfl) (Uz 63 rfl) rfl (by kernel_rfl) rfl ?_
  refine (Qt 0)<|Qn<|Qr ?_
  exact ⟨_, rfl, .cell (i := 0) rfl rfl (Uu 64) rfl (Uz 64) (arr_size _ _ _)⟩
end Go.Proofs.YtbjaenjgahjikaaDoor
namespace Go.Proofs.YtbjaenjgahjikaaDoor
open Go Go.RowKit
variable {G : Mem}
set_option maxHeartbeats 2000000 in
theorem spread_true (h d : Nat → Nat) (n ln : Nat) (hl : ln < 4294967296) : Fn Tryd.prog G 86 #[.agg (cells 74 [pI .u32 8 h, pI .u8 64 d, pV (.int .i64 (n : Int)), pV (.int .i64 (ln : Int))]), .bool true] (.agg (arr .u32 16 (w0 h ln true))) := by
  refine Qf1 Tryd.func86 ?_
  refine Qs<|Qp<|(Qh 0) fun r1=>(QH 1) fun r2=>Qn<|Qs<|Qp<|(QH 2) fun r3=>Qn<|Qs<|Qs<|Qp ?_
  refine e_call rfl (Un 71) div_fn rfl rfl ?_
  refine (Qm)<|Qn<|Qb ?_
  refine QzK [(1, _), (2, _), (4, _), (5, _), (8, _)] [(0, _), (1, _)] (fun kk E m => ∃ (i : Nat) (s : Nat → Nat), kk = 8 - i ∧ E = [(9, ii i)] ∧ m = [(2, some ⟨r3, arr .u32 16 s, 115⟩)] ∧ (i ≤ 8) ∧ (∀ t, t < 16 → s t = if t % 8 < i then w00 h t else 0)) ⟨0, fun _ => 0, rfl, rfl, rfl, by omega, fun t _ => by rw [if_neg (by omega)]⟩ ⟨rfl, rfl, rfl, rfl, rfl, rfl, trivial⟩ ⟨rfl, rfl, rfl, trivial⟩ ?_
  rintro kk E m ⟨i, s, rfl, rfl, rfl, hf0_0, hf0_1⟩
  simp only [catE, catL]
  refine Qs<|Qp<|(Ql)<|Qn<|Qs ?_
  refine e_cond rfl ?_ ?_
  · intro hc0
    have hc0 : i < 8 := by have := of_decide_eq_true hc0; omega
    refine Qk<|Qs<|Qb<|Qs<|Qp<|(Qm)<|(QX)<|(Qa)<|(Qa)<|Qn<|Qp<|(Qm)<|(Qm) ?_
    refine e_add_i (p := 8) rfl rfl rfl (by omega) ?_
    refine (Qm)<|(Qf 0)<|(Qi) ?_
    refine e_ldI (i := 0) 0 (i) (Uu 63) rfl rfl rfl rfl (by first | rfl | omega) (by omega) (by omega) rfl ⟨[], trivial⟩ ?_
    refine (Qm)<|(Qi)<|(Qu 2)<|(Qi)<|(Qu 2)<|Qn<|Qp<|(Q2 1)<|(Qm)<|Qn ?_
    refine QzL ⟨i + 1, upd (upd s i _) (8 + i) _, rfl, rfl, rfl, by omega, w00_step (by omega) hf0_1⟩ ⟨rfl, rfl, rfl, rfl, rfl, rfl, trivial⟩ ⟨rfl, rfl, rfl, trivial⟩ ?_
    omega
  · intro hc0
    have hc0 := of_decide_eq_false hc0
    have hz0 : i = 8 := by omega
    subst hz0
    refine Qe<|Qs<|Qp<|(Qj 12)<|(Q1 2)<|(Qf 73)<|(QV 3 0) ?_
    refine e_conv_w (Uu 3) (Uu 63) rfl rfl rfl ?_
    refine e_xor_w rfl rfl rfl  ?_
    refine (Qj 12)<|(Qu 2)<|Qn<|Qs<|Qp<|(Qj 13)<|(Q1 2)<|(Qf 73)<|(QV 3 0) ?_
    refine e_shr_i (s := 32) rfl rfl rfl (by omega) ?_
    refine e_as (congrArg ii (show ln / 2 ^ 32 = 0 by omega)) ?_
    refine e_conv_w (Uu 3) (Uu 63) rfl rfl rfl ?_
    refine e_xor_w rfl rfl rfl  ?_
    refine (Qj 13)<|(Qu 2)<|Qn<|Qs<|Qs<|Qp<|(Qm)<|Qn<|(Qct)<|Qp<|(Qj 14)<|(Q1 2) ?_
    refine e_compl_w rfl rfl ?_
    refine (Qj 14)<|(Qu 2)<|Qn<|Qs<|Qp<|(Qd 2)<|(Qt 1)<|Qn<|Qr ?_
    rw [← arr_congr (spr_true hf0_1)]
    exact ⟨_, rfl, .cell (i := 1) rfl rfl (Uu 115) rfl (Uz 115) (arr_size _ _ _)⟩
set_option maxHeartbeats 2000000 in
theorem spread_false (h d : Nat → Nat) (n ln : Nat) (hl : ln < 4294967296) : Fn Tryd.prog G 86 #[.agg (cells 74 [pI .u32 8 h, pI .u8 64 d, pV (.int .i64 (n : Int)), pV (.int .i64 (ln : Int))]), .bool false] (.agg (arr .u32 16 (w0 h ln false))) := by
  refine Qf1 Tryd.func86 ?_
  refine Qs<|Qp<|(Qh 0) fun r1=>(QH 1) fun r2=>Qn<|Qs<|Qp<|(QH 2) fun r3=>Qn<|Qs<|Qs<|Qp ?_
  refine e_call rfl (Un 71) div_fn rfl rfl ?_
  refine (Qm)<|Qn<|Qb ?_
  refine QzK [(1, _), (2, _), (4, _), (5, _), (8, _)] [(0, _), (1, _)] (fun kk E m => ∃ (i : Nat) (s : Nat → Nat), kk = 8 - i ∧ E = [(9, ii i)] ∧ m = [(2, some ⟨r3, arr .u32 16 s, 115⟩)] ∧ (i ≤ 8) ∧ (∀ t, t < 16 → s t = if t % 8 < i then w00 h t else 0)) ⟨0, fun _ => 0, rfl, rfl, rfl, by omega, fun t _ => by rw [if_neg (by omega)]⟩ ⟨rfl, rfl, rfl, rfl, rfl, rfl, trivial⟩ ⟨rfl, rfl, rfl, trivial⟩ ?_
  rintro kk E m ⟨i, s, rfl, rfl, rfl, hf0_0, hf0_1⟩
  simp only [catE, catL]
  refine Qs<|Qp<|(Ql)<|Qn<|Qs ?_
  refine e_cond rfl ?_ ?_
  · intro hc0
    have hc0 : i < 8 := by have := of_decide_eq_true hc0; omega
    refine Qk<|Qs<|Qb<|Qs<|Qp<|(Qm)<|(QX)<|(Qa)<|(Qa)<|Qn<|Qp<|(Qm)<|(Qm) ?_
    refine e_add_i (p := 8) rfl rfl rfl (by omega) ?_
    refine (Qm)<|(Qf 0)<|(Qi) ?_
    refine e_ldI (i := 0) 0 (i) (Uu 63) rfl rfl rfl rfl (by first | rfl | omega) (by omega) (by omega) rfl ⟨[], trivial⟩ ?_
    refine (Qm)<|(Qi)<|(Qu 2)<|(Qi)<|(Qu 2)<|Qn<|Qp<|(Q2 1)<|(Qm)<|Qn ?_
    refine QzL ⟨i + 1, upd (upd s i _) (8 + i) _, rfl, rfl, rfl, by omega, w00_step (by omega) hf0_1⟩ ⟨rfl, rfl, rfl, rfl, rfl, rfl, trivial⟩ ⟨rfl, rfl, rfl, trivial⟩ ?_
    omega
  · intro hc0
    have hc0 := of_decide_eq_false hc0
    have hz0 : i = 8 := by omega
    subst hz0
    refine Qe<|Qs<|Qp<|(Qj 12)<|(Q1 2)<|(Qf 73)<|(QV 3 0) ?_
    refine e_conv_w (Uu 3) (Uu 63) rfl rfl rfl ?_
    refine e_xor_w rfl rfl rfl  ?_
    refine (Qj 12)<|(Qu 2)<|Qn<|Qs<|Qp<|(Qj 13)<|(Q1 2)<|(Qf 73)<|(QV 3 0) ?_
    refine e_shr_i (s := 32) rfl rfl rfl (by omega) ?_
    refine e_as (congrArg ii (show ln / 2 ^ 32 = 0 by omega)) ?_
    refine e_conv_w (Uu 3) (Uu 63) rfl rfl rfl ?_
    refine e_xor_w rfl rfl rfl  ?_
    refine (Qj 13)<|(Qu 2)<|Qn<|Qs<|Qs<|Qp<|(Qm)<|Qn<|(Qcf)<|Qk<|Qs<|Qp<|(Qd 2)<|(Qt 1)<|Qn<|Qr ?_
    rw [← arr_congr (spr_false hf0_1)]
    exact ⟨_, rfl, .cell (i := 1) rfl rfl (Uu 115) rfl (Uz 115) (arr_size _ _ _)⟩
set_option maxHeartbeats 2000000 in
theorem dbegin6_fn : Fn Tryd.prog G 54 #[] (.agg (cells 74 [pI .u32 8 hbeg, pI .u8 64 (fun _ => 0), pV (.int .i64 0), pV (.int .i64 0)])) := by
  refine Qf1 Tryd.func54 ?_
  refine Qs<|Qp<|(QH 0) fun r1=>Qn<|Qs<|Qp ?_
  refine e_call rfl (Un 71) div_fn rfl rfl ?_
  refine (QH 1) fun r2=>(Qt 1)<|Qn<|Qs<|Qp<|(Qj 0)<|(Q1 1) ?_
  refine e_xor_w (q := 16842784) rfl rfl rfl  ?_
  refine (Qj 0)<|(Qu 1)<|Qn<|Qs<|Qp<|(Qd 1) ?_
  refine e_buildS (cells 74 [pI .u32 8 hbeg, pI .u8 64 (fun _ => 0), pV (.int .i64 0), pV (.int .i64 0)]) (Ub 67 rfl) (Uu 67 rfl) pls67 rfl (by kernel_rfl) rfl ?_
  refine e_storeA (i := 0) (Uz 67) rfl rfl (arrv_size _ _) (cells_one ⟨fun _ => rfl, fun _ => rfl, fun _ => rfl, fun _ => rfl, trivial⟩) rfl cells_sz (.inl rfl) ?_
  refine Qn<|Qr ?_
  exact ⟨_, rfl, .cell (i := 0) rfl rfl (Uu 67) rfl (Uz 67) (arrv_size _ _)⟩
end Go.Proofs.YtbjaenjgahjikaaDoor
namespace Go.Proofs.YtbjaenjgahjikaaDoor
open Go Go.RowKit
variable {G : Mem}
set_option maxHeartbeats 2000000 in
theorem dsqz_true (h d : Nat → Nat) (n ln : Nat) (hd : L8 64 d) (hl : ln < 4294967296) : Fn Tryd.prog (DOR :: G) 70 #[.agg (cells 74 [pI .u32 8 h, pI .u8 64 d, pV (.int .i64 (n : Int)), pV (.int .i64 (ln : Int))]), .bool true] (.agg (arr .u32 8 (sqz h ((List.range 64).map d) ln true))) := by
  obtain ⟨v, hv⟩ : ∃ v, v = rndM (wrd ((List.range 64).map d)) (w0 h ln true) 10 := ⟨_, rfl⟩
  have hvb : ∀ t, t < 16 → v t = brs ((List.range 64).map d) (w0 h ln true) 10 t := fun t ht => by rw [hv]; exact rnd_brs (fun _ _ => rfl) 10 t ht
  obtain ⟨z, hz⟩ : ∃ z, z = sqz h ((List.range 64).map d) ln true := ⟨_, rfl⟩
  rw [← hz]
  refine Qf1 Tryd.func70 ?_
  refine Qs<|Qp<|(Qh 0) fun r1=>(QH 1) fun r2=>Qn<|Qs<|(Qg)<|(QD 0)<|(Qm) ?_
  refine e_call rfl (Un 86) (spread_true h d n ln hl) rfl rfl ?_
  refine (Qf 8)<|(Qv 1 0) ?_
  refine e_call rfl (Un 87) (words_fn d hd) rfl rfl ?_
  refine e_call rfl (Un 85) (rounds6_fn (w0 h ln true) (wrd ((List.range 64).map d))) rfl rfl ?_
  refine e_as (congrArg (fun f => Value.agg (arr .u32 16 f)) hv.symm) ?_
  refine (QH 2) fun r3=>(Qt 2)<|Qn<|Qs<|Qs<|Qp<|(Qm)<|Qn<|Qb ?_
  refine QzK [(2, _), (4, _), (5, _)] [(1, _), (2, _)] (fun kk E m => ∃ (q : Nat) (s : Nat → Nat), kk = 8 - q ∧ E = [(14, ii q)] ∧ m = [(0, some ⟨r1, cells 74 [pI .u32 8 s, pI .u8 64 d, pV (.int .i64 (n : Int)), pV (.int .i64 (ln : Int))], 67⟩)] ∧ (q ≤ 8) ∧ (∀ t, t < 8 → s t = if t < q then z t else h t)) ⟨0, h, rfl, rfl, rfl, by omega, fun t _ => by rw [if_neg (by omega)]⟩ ⟨rfl, rfl, rfl, rfl, trivial⟩ ⟨rfl, rfl, rfl, trivial⟩ ?_
  rintro kk E m ⟨q, s, rfl, rfl, rfl, hf0_0, hf0_1⟩
  simp only [catE, catL]
  refine Qs<|Qp<|(Ql)<|Qn<|Qs ?_
  refine e_cond rfl ?_ ?_
  · intro hc0
    have hc0 : q < 8 := by have := of_decide_eq_true hc0; omega
    refine Qk<|Qs<|Qb<|Qs<|Qp<|(Qm)<|(Qa)<|Qn<|(Qg)<|(Qm)<|(Qf 0)<|(Qi) ?_
    refine e_ldI (i := 0) 0 (q) (Uu 63) rfl rfl rfl rfl (by first | rfl | omega) (by omega) (by omega) rfl ⟨[], trivial⟩ ?_
    refine (Qm)<|(Qi)<|(Q1 2)<|(Qm) ?_
    refine e_add_i (p := 8) rfl rfl rfl (by omega) ?_
    refine (Qi)<|(Q1 2) ?_
    refine e_xor_w rfl rfl rfl  ?_
    refine e_xor_w rfl rfl rfl  ?_
    refine (Qf 0)<|(Qi) ?_
    refine e_stI (i := 0) 0 (q) (Uz 63) rfl rfl rfl rfl (by first | rfl | omega) (by omega) (by omega) (.inl rfl) ?_
    refine Qn<|Qp<|(Q2 1)<|(Qm)<|Qn ?_
    refine QzL ⟨q + 1, upd s q _, rfl, rfl, rfl, by omega, sqd_step (by omega) hvb hz hf0_1⟩ ⟨rfl, rfl, rfl, rfl, trivial⟩ ⟨rfl, rfl, rfl, trivial⟩ ?_
    omega
  · intro hc0
    have hc0 := of_decide_eq_false hc0
    have hz0 : q = 8 := by omega
    subst hz0
    refine Qe<|Qs<|Qp<|(Qf 0)<|(Qv 0 0)<|(Qt 1)<|Qn<|Qr ?_
    rw [← arr_congr (k := .u32) (n := 8) (fun t ht => (hf0_1 t ht).trans (if_pos (by omega)))]
    exact ⟨_, rfl, .cell (i := 1) rfl rfl (Uu 64) rfl (Uz 64) (arr_size _ _ _)⟩
set_option maxHeartbeats 2000000 in
theorem dsqz_false (h d : Nat → Nat) (n ln : Nat) (hd : L8 64 d) (hl : ln < 4294967296) : Fn Tryd.prog (DOR :: G) 70 #[.agg (cells 74 [pI .u32 8 h, pI .u8 64 d, pV (.int .i64 (n : Int)), pV (.int .i64 (ln : Int))]), .bool false] (.agg (arr .u32 8 (sqz h ((List.range 64).map d) ln false))) := by
  obtain ⟨v, hv⟩ : ∃ v, v = rndM (wrd ((List.range 64).map d)) (w0 h ln false) 10 := ⟨_, rfl⟩
  have hvb : ∀ t, t < 16 → v t = brs ((List.range 64).map d) (w0 h ln false) 10 t := fun t ht => by rw [hv]; exact rnd_brs (fun _ _ => rfl) 10 t ht
  obtain ⟨z, hz⟩ : ∃ z, z = sqz h ((List.range 64).map d) ln false := ⟨_, rfl⟩
  rw [← hz]
  refine Qf1 Tryd.func70 ?_
  refine Qs<|Qp<|(Qh 0) fun r1=>(QH 1) fun r2=>Qn<|Qs<|(Qg)<|(QD 0)<|(Qm) ?_
  refine e_call rfl (Un 86) (spread_false h d n ln hl) rfl rfl ?_
  refine (Qf 8)<|(Qv 1 0) ?_
  refine e_call rfl (Un 87) (words_fn d hd) rfl rfl ?_
  refine e_call rfl (Un 85) (rounds6_fn (w0 h ln false) (wrd ((List.range 64).map d))) rfl rfl ?_
  refine e_as (congrArg (fun f => Value.agg (arr .u32 16 f)) hv.symm) ?_
  refine (QH 2) fun r3=>(Qt 2)<|Qn<|Qs<|Qs<|Qp<|(Qm)<|Qn<|Qb ?_
  refine QzK [(2, _), (4, _), (5, _)] [(1, _), (2, _)] (fun kk E m => ∃ (q : Nat) (s : Nat → Nat), kk = 8 - q ∧ E = [(14, ii q)] ∧ m = [(0, some ⟨r1, cells 74 [pI .u32 8 s, pI .u8 64 d, pV (.int .i64 (n : Int)), pV (.int .i64 (ln : Int))], 67⟩)] ∧ (q ≤ 8) ∧ (∀ t, t < 8 → s t = if t < q then z t else h t)) ⟨0, h, rfl, rfl, rfl, by omega, fun t _ => by rw [if_neg (by omega)]⟩ ⟨rfl, rfl, rfl, rfl, trivial⟩ ⟨rfl, rfl, rfl, trivial⟩ ?_
  rintro kk E m ⟨q, s, rfl, rfl, rfl, hf0_0, hf0_1⟩
  simp only [catE, catL]
  refine Qs<|Qp<|(Ql)<|Qn<|Qs ?_
  refine e_cond rfl ?_ ?_
  · intro hc0
    have hc0 : q < 8 := by have := of_decide_eq_true hc0; omega
    refine Qk<|Qs<|Qb<|Qs<|Qp<|(Qm)<|(Qa)<|Qn<|(Qg)<|(Qm)<|(Qf 0)<|(Qi) ?_
    refine e_ldI (i := 0) 0 (q) (Uu 63) rfl rfl rfl rfl (by first | rfl | omega) (by omega) (by omega) rfl ⟨[], trivial⟩ ?_
    refine (Qm)<|(Qi)<|(Q1 2)<|(Qm) ?_
    refine e_add_i (p := 8) rfl rfl rfl (by omega) ?_
    refine (Qi)<|(Q1 2) ?_
    refine e_xor_w rfl rfl rfl  ?_
    refine e_xor_w rfl rfl rfl  ?_
    refine (Qf 0)<|(Qi) ?_
    refine e_stI (i := 0) 0 (q) (Uz 63) rfl rfl rfl rfl (by first | rfl | omega) (by omega) (by omega) (.inl rfl) ?_
    refine Qn<|Qp<|(Q2 1)<|(Qm)<|Qn ?_
    refine QzL ⟨q + 1, upd s q _, rfl, rfl, rfl, by omega, sqd_step (by omega) hvb hz hf0_1⟩ ⟨rfl, rfl, rfl, rfl, trivial⟩ ⟨rfl, rfl, rfl, trivial⟩ ?_
    omega
  · intro hc0
    have hc0 := of_decide_eq_false hc0
    have hz0 : q = 8 := by omega
    subst hz0
    refine Qe<|Qs<|Qp<|(Qf 0)<|(Qv 0 0)<|(Qt 1)<|Qn<|Qr ?_
    rw [← arr_congr (k := .u32) (n := 8) (fun t ht => (hf0_1 t ht).trans (if_pos (by omega)))]
    exact ⟨_, rfl, .cell (i := 1) rfl rfl (Uu 64) rfl (Uz 64) (arr_size _ _ _)⟩
end Go.Proofs.YtbjaenjgahjikaaDoor
namespace Go.Proofs.YtbjaenjgahjikaaDoor
open Go Go.RowKit
variable {G : Mem}
set_option maxHeartbeats 4000000 in
theorem dadded_fn (h d : Nat → Nat) (n ln : Nat) (v : Value) (l : List Nat) (hv : Shows (DOR :: G) 1 v l.length (l.map by8)) (hlb : ∀ b ∈ l, b < 256) (hd : L8 64 d) (hok : okB n ln d = true) (hz : ln + l.length ≤ 1073741824) : Fn Tryd.prog (DOR :: G) 53 #[.agg (cells 74 [pI .u32 8 h, pI .u8 64 d, pV (.int .i64 (n : Int)), pV (.int .i64 (ln : Int))]), v] (.agg (cells 74 [pI .u32 8 (hacc h (ln - n) (sS d n l) (nblk (sS d n l).length)), pI .u8 64 (fun i => ((sS d n l).drop (64 * nblk (sS d n l).length)).getD i 0), pV (.int .i64 (((sS d n l).drop (64 * nblk (sS d n l).length)).length : Nat)), pV (.int .i64 (ln + l.length : Nat))])) := by
  obtain ⟨_, hnl, hn, hmod, _⟩ := okB_open hok
  refine Qf1 Tryd.func53 ?_
  refine Qs<|Qp<|(Qh 0) fun r1=>(QH 1) fun r2=>Qn<|Qs<|Qb ?_
  refine QzK [(2, _), (4, _)] [(1, _)] (fun kk E m => ∃ (hh : Nat → Nat) (g : Nat → Nat) (nn : Nat) (q : Nat) (bv : Value), kk = ln + l.length - q ∧ E = [(1, bv)] ∧ m = [(0, some ⟨r1, cells 74 [pI .u32 8 hh, pI .u8 64 g, pV (.int .i64 ((nn : Nat) : Int)), pV (.int .i64 ((q : Nat) : Int))], 67⟩)] ∧ (AddInv h d n ln l hh g nn q) ∧ (Shows (DOR :: G) 1 bv (l.drop (q - ln)).length ((l.drop (q - ln)).map by8))) ⟨h, d, n, ln, v, rfl, rfl, rfl, add_first l hok, (by rw [Nat.sub_self]; exact hv)⟩ ⟨rfl, rfl, rfl, trivial⟩ ⟨rfl, rfl, trivial⟩ ?_
  rintro kk E m ⟨hh, g, nn, q, bv, rfl, rfl, rfl, hf0_0, hf0_1⟩
  simp only [catE, catL]
  have hq1 := hf0_0.1
  have hq2 := hf0_0.2.1
  have hnn := add_nn hf0_0
  have hwl : (l.drop (q - ln)).length = l.length - (q - ln) := List.length_drop
  refine Qs<|Qs<|Qp<|(Qm)<|(QC hf0_1)<|(QG)<|Qn ?_
  refine e_cond rfl ?_ ?_
  · intro hc0
    have hw0 : 0 < (l.drop (q - ln)).length := by have := of_decide_eq_true hc0; omega
    refine Qk<|Qb<|Qs<|Qs ?_
    rcases (by omega : nn = 64 ∨ nn < 64) with hN | hN
    · skip
      refine Qp<|(Qf 72)<|(QV 2 0)<|(Qc)<|Qn ?_
      refine e_cond rfl ?_ ?_
      · intro hc1
        refine Qs<|Qp<|(QD 0) ?_
        refine e_call rfl (Un 70) (dsqz_false hh g nn q (add_lt hd hn hlb hf0_0) (by omega)) rfl rfl ?_
        refine (Qf 0) ?_
        refine e_stC (i := 0) 0 (Uz 64) rfl rfl rfl rfl (by decide) (.inl rfl) ?_
        refine Qn<|Qp ?_
        refine e_build0 (Ub 65 rfl) (Uu 65 rfl) sis5 rfl ?_
        refine (Qf 8) ?_
        refine e_stC (i := 0) 1 (Uz 65) rfl rfl rfl rfl (by decide) (.inl rfl) ?_
        refine (Qf 72) ?_
        refine e_stV (i := 0) 2 (Uz 3) rfl rfl rfl rfl rfl (by decide) (.inl rfl) ?_
        refine Qn<|Qs<|Qp<|(Qf 8)<|(Qf 72)<|(QV 2 0) ?_
        refine e_sliceA 0 64 (Uu 65) (Uz 5) rfl rfl rfl ⟨_, rfl⟩ rfl (by omega) (by omega) (by omega) rfl ?_
        refine (Qm) ?_
        refine e_copyCB (i := 0) (o := 8) (L := 64) 1 (0) (Uu 33) (Uz 5) hf0_1 seenG rfl rfl rfl rfl (by omega) (by omega) (by decide) rfl ?_
        refine (Qa)<|Qn<|Qs<|Qp<|(Qf 72)<|(QV 2 0) ?_
        refine e_as (show _ = ii 0 from rfl) ?_
        refine (Qm)<|(Q3)<|(Qf 72) ?_
        refine e_stV (i := 0) 2 (Uz 3) rfl rfl rfl rfl rfl (by decide) (.inl rfl) ?_
        refine Qn<|Qs<|Qp<|(Qf 73)<|(QV 3 0)<|(Qm)<|(Q3)<|(Qf 73) ?_
        refine e_stV (i := 0) 3 (Uz 3) rfl rfl rfl rfl rfl (by decide) (.inl rfl) ?_
        refine Qn<|Qp<|(Qm)<|(Qm) ?_
        refine e_sliceV _ (l.drop (q - ln)).length hf0_1 (Uu 33) (Uz 5) rfl rfl rfl ⟨_, rfl⟩ rfl (by omega) (by omega) rfl ?_
        refine (Qa)<|Qn ?_
        refine QzL ⟨_, _, _, _, _, rfl, rfl, rfl, (by first | exact add_full hnl hf0_0 hN hmod rfl hw0 rfl (fun _ _ => rfl) rfl rfl | exact add_more hf0_0 hN rfl hw0 (fun _ _ => rfl) rfl rfl), (add_shows hf0_1 (by omega) hq1)⟩ ⟨rfl, rfl, rfl, trivial⟩ ⟨rfl, rfl, trivial⟩ ?_
        omega
      · intro hc1
        exact absurd (of_decide_eq_false hc1) (by omega)
    · skip
      refine Qp<|(Qf 72)<|(QV 2 0)<|(Qc)<|Qn ?_
      refine e_cond rfl ?_ ?_
      · intro hc1
        exact absurd (of_decide_eq_true hc1) (by omega)
      · intro hc1
        refine Qk<|Qs<|Qp<|(Qf 8)<|(Qf 72)<|(QV 2 0) ?_
        refine e_sliceA nn 64 (Uu 65) (Uz 5) rfl rfl rfl ⟨_, rfl⟩ rfl (by omega) (by omega) (by omega) rfl ?_
        refine (Qm) ?_
        refine e_copyCB (i := 0) (o := 8) (L := 64) 1 (nn) (Uu 33) (Uz 5) hf0_1 seenG rfl rfl rfl rfl (by omega) (by omega) (by decide) rfl ?_
        refine (Qa)<|Qn<|Qs<|Qp<|(Qf 72)<|(QV 2 0)<|(Qm)<|(Q3)<|(Qf 72) ?_
        refine e_stV (i := 0) 2 (Uz 3) rfl rfl rfl rfl rfl (by decide) (.inl rfl) ?_
        refine Qn<|Qs<|Qp<|(Qf 73)<|(QV 3 0)<|(Qm)<|(Q3)<|(Qf 73) ?_
        refine e_stV (i := 0) 3 (Uz 3) rfl rfl rfl rfl rfl (by decide) (.inl rfl) ?_
        refine Qn<|Qp<|(Qm)<|(Qm) ?_
        refine e_sliceV _ (l.drop (q - ln)).length hf0_1 (Uu 33) (Uz 5) rfl rfl rfl ⟨_, rfl⟩ rfl (by omega) (by omega) rfl ?_
        refine (Qa)<|Qn ?_
        refine QzL ⟨_, _, _, _, _, rfl, rfl, rfl, (by first | exact add_full hnl hf0_0 hN hmod rfl hw0 rfl (fun _ _ => rfl) rfl rfl | exact add_more hf0_0 hN rfl hw0 (fun _ _ => rfl) rfl rfl), (add_shows hf0_1 (by omega) hq1)⟩ ⟨rfl, rfl, rfl, trivial⟩ ⟨rfl, rfl, trivial⟩ ?_
        omega
  · intro hc0
    have hw0 : (l.drop (q - ln)).length = 0 := by have := of_decide_eq_false hc0; omega
    obtain ⟨a1, a2, a3, a4⟩ := add_last hf0_0 hw0
    refine Qe<|Qs<|Qp<|(QD 0) ?_
    refine e_as (Eq.trans (show _ = .agg (cells 74 [pI .u32 8 hh, pI .u8 64 g, pV (.int .i64 ((nn : Nat) : Int)), pV (.int .i64 ((q : Nat) : Int))]) from rfl) (cH_congr a1 a2 a3 a4)) ?_
    refine e_storeA (i := 1) (Uz 67) rfl rfl (arrv_size _ _) (cells_one ⟨fun _ => rfl, fun _ => rfl, fun _ => rfl, fun _ => rfl, trivial⟩) rfl cells_sz (.inl rfl) ?_
    refine Qn<|Qr ?_
    exact ⟨_, rfl, .cell (i := 1) rfl rfl (Uu 67) rfl (Uz 67) (arrv_size _ _)⟩
set_option maxHeartbeats 2000000 in
theorem dended6_fn (h d : Nat → Nat) (n ln : Nat) (hd : L8 64 d) (hl : ln < 4294967296) : Fn Tryd.prog (DOR :: G) 52 #[.agg (cells 74 [pI .u32 8 h, pI .u8 64 d, pV (.int .i64 (n : Int)), pV (.int .i64 (ln : Int))])] (.agg (arr .u8 32 (hsumf (sqz h ((List.range 64).map d) ln true)))) := by
  obtain ⟨w, hw⟩ : ∃ w, w = (sqz h ((List.range 64).map d) ln true) := ⟨_, rfl⟩
  rw [← hw]
  refine Qf1 Tryd.func52 ?_
  refine Qs<|Qp<|(Qh 0) fun r1=>(QH 1) fun r2=>Qn<|Qs<|Qp<|(QD 0) ?_
  refine e_call rfl (Un 70) (dsqz_true h d n ln hd hl) rfl rfl ?_
  refine e_as (congrArg (fun f => Value.agg (arr .u32 8 f)) hw.symm) ?_
  refine (QH 2) fun r3=>(Qt 2)<|Qn<|Qs<|Qp<|(QH 3) fun r4=>Qn<|Qs<|Qs<|Qp<|(Qm)<|Qn<|Qb ?_
  refine QzK [(2, _), (3, _), (4, _)] [(0, _), (1, _), (2, _)] (fun kk E m => ∃ (i : Nat) (s : Nat → Nat), kk = 32 - i ∧ E = [(8, ii i)] ∧ m = [(3, some ⟨r4, arr .u8 32 s, 23⟩)] ∧ (i ≤ 32) ∧ (∀ t, t < i → s t = hsumf w t)) ⟨0, fun _ => 0, rfl, rfl, rfl, by omega, fun t ht => absurd ht (Nat.not_lt_zero t)⟩ ⟨rfl, rfl, rfl, rfl, trivial⟩ ⟨rfl, rfl, rfl, rfl, trivial⟩ ?_
  rintro kk E m ⟨i, s, rfl, rfl, rfl, hf0_0, hf0_1⟩
  simp only [catE, catL]
  refine Qs<|Qp<|(Ql)<|Qn<|Qs ?_
  refine e_cond rfl ?_ ?_
  · intro hc0
    have hc0 : i < 32 := by have := of_decide_eq_true hc0; omega
    refine Qk<|Qs<|Qb<|Qs<|Qp<|(Qm)<|(Qa)<|Qn<|Qp<|(Qm)<|(Qm)<|(Q5 4)<|(Qi)<|(Q1 2)<|(Qm)<|(Q4 4)<|(Q6 8) ?_
    refine e_shr_w rfl rfl rfl (by omega) ?_
    refine e_conv_u8 (Uu 63) (Uu 5) rfl rfl rfl ?_
    refine (Qi)<|(Qu 3)<|Qn<|Qp<|(Q2 1)<|(Qm)<|Qn ?_
    refine QzL ⟨i + 1, upd s i _, rfl, rfl, rfl, by omega, upd_lt hf0_1 (hsum_at w (by omega))⟩ ⟨rfl, rfl, rfl, rfl, trivial⟩ ⟨rfl, rfl, rfl, rfl, trivial⟩ ?_
    omega
  · intro hc0
    have hc0 := of_decide_eq_false hc0
    have hz0 : i = 32 := by omega
    subst hz0
    refine Qe<|Qs<|Qp<|(Qd 3)<|(Qt 1)<|Qn<|Qr ?_
    rw [← arr_congr (k := .u8) (n := 32) hf0_1]
    exact ⟨_, rfl, .cell (i := 1) rfl rfl (Uu 23) rfl (Uz 23) (arr_size _ _ _)⟩
end Go.Proofs.YtbjaenjgahjikaaDoor
namespace Go.Proofs.YtbjaenjgahjikaaDoor
open Go Go.RowKit
variable {G : Mem}
set_option maxHeartbeats 400000 in
theorem left_fn (n b : Nat) (hb : b ≤ 32) : Fn Tryd.prog G 76 #[uw n, ii b] (uw (rotl n b)) := by
  refine Qf1 Tryd.func76 ?_
  refine Qs<|Qp<|(Qa)<|Qn<|Qs<|(Qg)<|(Qm)<|(Qm) ?_
  refine e_shl_w rfl rfl rfl (by omega) ?_
  refine (Qm)<|(Qm) ?_
  refine e_sub_z (p := 32) rfl rfl rfl (by omega) (by omega) ?_
  refine e_as (congrArg (Value.int .i64) (show (32 : Int) - (b : Int) = ((32 - b : Nat) : Int) by omega)) ?_
  refine e_shr_w rfl rfl rfl (by omega) ?_
  refine e_or_w rfl rfl rfl  ?_
  refine (Qa)<|Qn<|Qr ?_
  exact ⟨_, rfl, .tmp rfl⟩
set_option maxHeartbeats 400000 in
theorem round_fn (f : Nat → Nat) : Fn Tryd.prog G 96 #[.agg (arr .u32 16 f)] (.agg (arr .u32 16 (rnd f))) := by
  refine Qf1 Tryd.func96 ?_
  refine Qs<|Qp<|(Qh 0) fun r1=>(QH 1) fun r2=>Qn<|Qs<|Qs<|Qp<|(Qm)<|Qn<|Qb ?_
  refine Qz (fun kk E m => ∃ (k : Nat) (s : Nat → Nat), kk = 4 - k ∧ E = [(1, ptr r1), (2, ptr r2), (8, ii k)] ∧ m = [(0, some ⟨r1, arr .u32 16 s, 104⟩), (1, some ⟨r2, arr .u32 16 (fun _ => 0), 104⟩)] ∧ (k ≤ 4) ∧ (∀ t, t < 16 → s t = if t % 4 < k then rnd f t else f t)) ⟨0, f, rfl, rfl, rfl, by omega, fun t _ => by rw [if_neg (by omega)]⟩ ⟨rfl, rfl, rfl, trivial⟩ ⟨rfl, rfl, trivial⟩ ?_
  rintro kk E m ⟨k, s, rfl, rfl, rfl, hf0_0, hf0_1⟩
  refine Qs<|Qp<|(Ql)<|Qn<|Qs ?_
  refine e_cond rfl ?_ ?_
  · intro hc0
    have hc0 := of_decide_eq_true hc0
    refine Qk<|Qs<|Qb<|Qs<|Qp<|(Qm)<|(Qa)<|Qn<|Qs<|(Qg)<|(Qm)<|(QA 0 0)<|(Qi)<|(Q1 0)<|(Qm)<|(QA 4 1)<|(QB (4 + k))<|(Q1 0)<|(Qm)<|(QA 8 2)<|(QB (8 + k))<|(Q1 0)<|(Qm)<|(QA 12 3)<|(QB (12 + k))<|(Q1 0)<|(Qa)<|(Qa)<|(Qa)<|(Qa)<|Qn<|Qs<|Qp<|(Qm)<|(Qm) ?_
    refine e_add_w rfl rfl rfl  ?_
    refine (Qa)<|Qn<|Qs<|Qp<|(Qm)<|(Qm) ?_
    refine e_xor_w rfl rfl rfl  ?_
    refine e_call rfl (Un 76) (left_fn _ _ (by decide)) rfl rfl ?_
    refine (Qa)<|Qn<|Qs<|Qp<|(Qm)<|(Qm) ?_
    refine e_add_w rfl rfl rfl  ?_
    refine (Qa)<|Qn<|Qs<|Qp<|(Qm)<|(Qm) ?_
    refine e_xor_w rfl rfl rfl  ?_
    refine e_call rfl (Un 76) (left_fn _ _ (by decide)) rfl rfl ?_
    refine (Qa)<|Qn<|Qs<|Qp<|(Qm)<|(Qm) ?_
    refine e_add_w rfl rfl rfl  ?_
    refine (Qa)<|Qn<|Qs<|Qp<|(Qm)<|(Qm) ?_
    refine e_xor_w rfl rfl rfl  ?_
    refine e_call rfl (Un 76) (left_fn _ _ (by decide)) rfl rfl ?_
    refine (Qa)<|Qn<|Qs<|Qp<|(Qm)<|(Qm) ?_
    refine e_add_w rfl rfl rfl  ?_
    refine (Qa)<|Qn<|Qs<|Qp<|(Qm)<|(Qm) ?_
    refine e_xor_w rfl rfl rfl  ?_
    refine e_call rfl (Un 76) (left_fn _ _ (by decide)) rfl rfl ?_
    refine (Qa)<|Qn<|Qp<|(Qm)<|(Qm)<|(Qm)<|(Qm)<|(Qm)<|(Qm)<|(Qm)<|(Qm)<|(QA 0 0)<|(Qi)<|(Qu 0)<|(QA 4 1)<|(QB (4 + k))<|(Qu 0)<|(QA 8 2)<|(QB (8 + k))<|(Qu 0)<|(QA 12 3)<|(QB (12 + k))<|(Qu 0)<|Qn<|Qp<|(Q2 1)<|(Qm)<|Qn ?_
    refine Qzr ⟨k + 1, upd (upd (upd (upd s k _) (4 + k) _) (8 + k) _) (12 + k) _, rfl, rfl, rfl, by omega, rnd_step (by omega) hf0_1 _ rfl⟩ ⟨rfl, rfl, rfl, trivial⟩ ⟨rfl, rfl, trivial⟩ ?_
    omega
  · intro hc0
    have hc0 := of_decide_eq_false hc0
    have hk : k = 4 := by omega
    subst hk
    refine Qe<|Qs<|Qp<|(Qd 0)<|(Qt 1)<|Qn<|Qr ?_
    rw [← rnd_end hf0_1]
    exact ⟨_, rfl, .cell (i := 1) rfl rfl (Uu 104) rfl (Uz 104) (arr_size _ _ _)⟩
set_option maxHeartbeats 400000 in
theorem sh1_fn (f : Nat → Nat) : Fn Tryd.prog G 75 #[.agg (arr .u32 16 f), ii 1] (.agg (arr .u32 16 (sh1 f))) := by
  refine Qf1 Tryd.func75 ?_
  refine Qs<|Qp<|(Qh 0) fun r1=>(QH 1) fun r2=>Qn<|Qs<|Qp<|(QH 2) fun r3=>Qn<|Qs<|Qs<|Qp<|(Qm)<|Qn<|Qb ?_
  refine Qz (fun kk E m => ∃ (k : Nat) (s : Nat → Nat), kk = 4 - k ∧ E = [(1, ii 1), (2, ptr r1), (4, ptr r2), (5, ptr r3), (8, ii k)] ∧ m = [(0, some ⟨r1, arr .u32 16 f, 104⟩), (1, some ⟨r2, arr .u32 16 (fun _ => 0), 104⟩), (2, some ⟨r3, arr .u32 16 s, 104⟩)] ∧ (k ≤ 4) ∧ (∀ t, t < 4 * k → s t = sh1 f t)) ⟨0, fun _ => 0, rfl, rfl, rfl, by omega, fun t ht => absurd ht (Nat.not_lt_zero t)⟩ ⟨rfl, rfl, rfl, rfl, rfl, trivial⟩ ⟨rfl, rfl, rfl, trivial⟩ ?_
  rintro kk E m ⟨k, s, rfl, rfl, rfl, hf0_0, hf0_1⟩
  refine Qs<|Qp<|(Ql)<|Qn<|Qs ?_
  refine e_cond rfl ?_ ?_
  · intro hc0
    have hc0 := of_decide_eq_true hc0
    refine Qk<|Qs<|Qb<|Qs<|Qp<|(Qm)<|(Qa)<|Qn<|Qs<|Qp<|(Qm)<|Qn<|Qb ?_
    refine Qz (fun kk E m => ∃ (j : Nat) (s2 : Nat → Nat), kk = 4 - j ∧ E = [(1, ii 1), (2, ptr r1), (4, ptr r2), (5, ptr r3), (8, ii k), (6, ii k), (11, ii j)] ∧ m = [(0, some ⟨r1, arr .u32 16 f, 104⟩), (1, some ⟨r2, arr .u32 16 (fun _ => 0), 104⟩), (2, some ⟨r3, arr .u32 16 s2, 104⟩)] ∧ (j ≤ 4) ∧ (∀ t, t < 4 * k + j → s2 t = sh1 f t)) ⟨0, s, rfl, rfl, rfl, by omega, hf0_1⟩ ⟨rfl, rfl, rfl, rfl, rfl, rfl, rfl, trivial⟩ ⟨rfl, rfl, rfl, trivial⟩ ?_
    rintro kk E m ⟨j, s2, rfl, rfl, rfl, hf1_0, hf1_1⟩
    refine Qs<|Qp<|(Ql)<|Qn<|Qs ?_
    refine e_cond rfl ?_ ?_
    · intro hc1
      have hc1 := of_decide_eq_true hc1
      refine Qk<|Qs<|Qb<|Qs<|Qp<|(Qm)<|(Qa)<|Qn<|(Qg)<|(Qm)<|(Qm)<|(Qm)<|(Qm)<|(Q2 4)<|(Qm)<|(Qm) ?_
      refine e_mul_i rfl rfl rfl (by omega) ?_
      refine (Q3)<|(Q4 4)<|(QB (4 * k))<|(QB (4 * k + (j + 4 + 1 * k) % 4))<|(Q1 0)<|(QB (4 * k))<|(QB (4 * k + j))<|(Qu 2)<|Qn<|Qp<|(Q2 1)<|(Qm)<|Qn ?_
      refine Qzr ⟨j + 1, upd s2 (4 * k + j) _, rfl, rfl, rfl, by omega, sh_at sh1 f s2 (sh1_v f (by omega)) hf1_1⟩ ⟨rfl, rfl, rfl, rfl, rfl, rfl, rfl, trivial⟩ ⟨rfl, rfl, rfl, trivial⟩ ?_
      omega
    · intro hc1
      have hc1 := of_decide_eq_false hc1
      have hj4 : j = 4 := by omega
      subst hj4
      refine Qe<|Qp<|(Q2 1)<|(Qm)<|Qn ?_
      refine Qzr ⟨k + 1, s2, rfl, rfl, rfl, by omega, by rw [show 4 * (k + 1) = 4 * k + 4 by omega]; exact hf1_1⟩ ⟨rfl, rfl, rfl, rfl, rfl, trivial⟩ ⟨rfl, rfl, rfl, trivial⟩ ?_
      omega
  · intro hc0
    have hc0 := of_decide_eq_false hc0
    have hk : k = 4 := by omega
    subst hk
    refine Qe<|Qs<|Qp<|(Qd 2)<|(Qt 1)<|Qn<|Qr ?_
    rw [← arr_congr hf0_1]
    exact ⟨_, rfl, .cell (i := 1) rfl rfl (Uu 104) rfl (Uz 104) (arr_size _ _ _)⟩
set_option maxHeartbeats 400000 in
theorem shm_fn (f : Nat → Nat) : Fn Tryd.prog G 75 #[.agg (arr .u32 16 f), .int .i64 (-1)] (.agg (arr .u32 16 (shm f))) := by
  refine Qf1 Tryd.func75 ?_
  refine Qs<|Qp<|(Qh 0) fun r1=>(QH 1) fun r2=>Qn<|Qs<|Qp<|(QH 2) fun r3=>Qn<|Qs<|Qs<|Qp<|(Qm)<|Qn<|Qb ?_
  refine Qz (fun kk E m => ∃ (k : Nat) (s : Nat → Nat), kk = 4 - k ∧ E = [(1, .int .i64 (-1)), (2, ptr r1), (4, ptr r2), (5, ptr r3), (8, ii k)] ∧ m = [(0, some ⟨r1, arr .u32 16 f, 104⟩), (1, some ⟨r2, arr .u32 16 (fun _ => 0), 104⟩), (2, some ⟨r3, arr .u32 16 s, 104⟩)] ∧ (k ≤ 4) ∧ (∀ t, t < 4 * k → s t = shm f t)) ⟨0, fun _ => 0, rfl, rfl, rfl, by omega, fun t ht => absurd ht (Nat.not_lt_zero t)⟩ ⟨rfl, rfl, rfl, rfl, rfl, trivial⟩ ⟨rfl, rfl, rfl, trivial⟩ ?_
  rintro kk E m ⟨k, s, rfl, rfl, rfl, hf0_0, hf0_1⟩
  refine Qs<|Qp<|(Ql)<|Qn<|Qs ?_
  refine e_cond rfl ?_ ?_
  · intro hc0
    have hc0 := of_decide_eq_true hc0
    refine Qk<|Qs<|Qb<|Qs<|Qp<|(Qm)<|(Qa)<|Qn<|Qs<|Qp<|(Qm)<|Qn<|Qb ?_
    refine Qz (fun kk E m => ∃ (j : Nat) (s2 : Nat → Nat), kk = 4 - j ∧ E = [(1, .int .i64 (-1)), (2, ptr r1), (4, ptr r2), (5, ptr r3), (8, ii k), (6, ii k), (11, ii j)] ∧ m = [(0, some ⟨r1, arr .u32 16 f, 104⟩), (1, some ⟨r2, arr .u32 16 (fun _ => 0), 104⟩), (2, some ⟨r3, arr .u32 16 s2, 104⟩)] ∧ (j ≤ 4) ∧ (∀ t, t < 4 * k + j → s2 t = shm f t)) ⟨0, s, rfl, rfl, rfl, by omega, hf0_1⟩ ⟨rfl, rfl, rfl, rfl, rfl, rfl, rfl, trivial⟩ ⟨rfl, rfl, rfl, trivial⟩ ?_
    rintro kk E m ⟨j, s2, rfl, rfl, rfl, hf1_0, hf1_1⟩
    refine Qs<|Qp<|(Ql)<|Qn<|Qs ?_
    refine e_cond rfl ?_ ?_
    · intro hc1
      have hc1 := of_decide_eq_true hc1
      refine Qk<|Qs<|Qb<|Qs<|Qp<|(Qm)<|(Qa)<|Qn<|(Qg)<|(Qm)<|(Qm)<|(Qm)<|(Qm)<|(Q2 4)<|(Qm)<|(Qm) ?_
      refine e_mul_z rfl rfl rfl (by omega) (by omega) ?_
      refine e_add_z rfl rfl rfl (by omega) (by omega) ?_
      refine e_as (congrArg (Value.int .i64) (show ((j + 4 : Nat) : Int) + -1 * ((k : Nat) : Int) = ((j + 4 - k : Nat) : Int) by omega)) ?_
      refine (Q4 4)<|(QB (4 * k))<|(QB (4 * k + (j + 4 - k) % 4))<|(Q1 0)<|(QB (4 * k))<|(QB (4 * k + j))<|(Qu 2)<|Qn<|Qp<|(Q2 1)<|(Qm)<|Qn ?_
      refine Qzr ⟨j + 1, upd s2 (4 * k + j) _, rfl, rfl, rfl, by omega, sh_at shm f s2 (shm_v f (by omega)) hf1_1⟩ ⟨rfl, rfl, rfl, rfl, rfl, rfl, rfl, trivial⟩ ⟨rfl, rfl, rfl, trivial⟩ ?_
      omega
    · intro hc1
      have hc1 := of_decide_eq_false hc1
      have hj4 : j = 4 := by omega
      subst hj4
      refine Qe<|Qp<|(Q2 1)<|(Qm)<|Qn ?_
      refine Qzr ⟨k + 1, s2, rfl, rfl, rfl, by omega, by rw [show 4 * (k + 1) = 4 * k + 4 by omega]; exact hf1_1⟩ ⟨rfl, rfl, rfl, rfl, rfl, trivial⟩ ⟨rfl, rfl, rfl, trivial⟩ ?_
      omega
  · intro hc0
    have hc0 := of_decide_eq_false hc0
    have hk : k = 4 := by omega
    subst hk
    refine Qe<|Qs<|Qp<|(Qd 2)<|(Qt 1)<|Qn<|Qr ?_
    rw [← arr_congr hf0_1]
    exact ⟨_, rfl, .cell (i := 1) rfl rfl (Uu 104) rfl (Uz 104) (arr_size _ _ _)⟩
set_option maxHeartbeats 400000 in
theorem low_fn (n k : Nat) (hn : n < 18446744073709551616) (hk : k ≤ 64) : Fn Tryd.prog G 57 #[u n, ii k] (sv (lowl n k)) := by
  refine Qf1 Tryd.func57 ?_
  refine Qs<|Qp ?_
  refine e_assign (v := sv []) rfl rfl ?_
  refine Qn<|Qs<|Qp ?_
  refine e_assign (v := sv []) rfl rfl ?_
  refine Qn<|Qs<|Qs<|Qp<|(Qm)<|(Qm)<|Qn<|Qb ?_
  refine Qz (fun kk E m => ∃ (i : Nat), kk = k - i ∧ E = [(0, u (n / 256 ^ i)), (1, ii k), (5, sv (lowl n i)), (6, ii k), (7, ii i)] ∧ m = [] ∧ (i ≤ k)) ⟨0, rfl, rfl, rfl, by omega⟩ ⟨by rw [Nat.pow_zero, Nat.div_one]; rfl, rfl, rfl, rfl, rfl, trivial⟩ trivial ?_
  rintro kk E m ⟨i, rfl, rfl, rfl, hf0_0⟩
  have hq : n / 256 ^ i < 18446744073709551616 := Nat.lt_of_le_of_lt (Nat.div_le_self _ _) hn
  have hll := lowl_len n i
  refine Qs<|Qp<|(Ql)<|Qn<|Qs ?_
  refine e_cond rfl ?_ ?_
  · intro hc0
    have hc0 := of_decide_eq_true hc0
    refine Qk<|Qs<|Qb<|Qs<|Qp<|(Qm)<|(Qm) ?_
    refine e_conv_u8 (Uu 24) (Uu 5) rfl rfl rfl ?_
    refine e_buildSl 0 #[by8 (n / 256 ^ i % 256)] (Uu 33 rfl) (Uz 5 rfl) (Ub 5 rfl) (by decide) (by decide) rfl (by kernel_rfl) rfl fun r1 => ?_
    refine e_conv_strV (l := [n / 256 ^ i % 256]) (shows_new _ _ (by rfl)) (seen1 0 rfl ⟨[], trivial⟩) (Uu 33) (Uu 5) (Uu 9) rfl rfl rfl ?_
    refine e_catS rfl rfl rfl (by simp; omega) ?_
    refine (Qa)<|Qn<|Qp<|(Qm) ?_
    refine e_quo_u (q := 256) rfl rfl rfl (by omega) (by omega) ?_
    refine (Qa)<|Qn<|Qp<|(Q2 1)<|(Qm)<|Qn ?_
    refine Qzr ⟨i + 1, rfl, rfl, rfl, by omega⟩ ⟨by rw [Nat.pow_succ, ← Nat.div_div_eq_div_mul]; rfl, rfl, by rw [← lowl_succ]; rfl, rfl, rfl, trivial⟩ trivial ?_
    omega
  · intro hc0
    have hc0 := of_decide_eq_false hc0
    have hik : i = k := by omega
    subst hik
    refine Qe<|Qs<|Qp<|(Qm)<|(Qa)<|Qn<|Qr ?_
    exact ⟨_, rfl, .tmp rfl⟩
set_option maxHeartbeats 400000 in
theorem number_fn (l : List Nat) (hl : l.length ≤ 8) (hb : ∀ b ∈ l, b < 256) : Fn Tryd.prog G 74 #[sv l] (u (leN l)) := by
  refine Qf1 Tryd.func74 ?_
  refine Qs<|Qp<|(Qa)<|Qn<|Qs<|Qp<|(Qa)<|Qn<|Qs<|Qs<|Qp<|(Qm)<|(QU) ?_
  refine e_sub_z (q := 1) rfl rfl rfl (by omega) (by omega) ?_
  refine (Qa)<|Qn<|Qb ?_
  refine Qz (fun kk E m => ∃ (n : Nat), kk = 2 * n ∧ E = [(0, sv l), (3, u (leN (l.drop n))), (4, .int .i64 (((n : Nat) : Int) - 1))] ∧ m = [] ∧ (n ≤ l.length)) ⟨l.length, rfl, rfl, rfl, Nat.le_refl _⟩ ⟨rfl, by rw [List.drop_length]; rfl, rfl, trivial⟩ trivial ?_
  rintro kk E m ⟨n, rfl, rfl, rfl, hf0_0⟩
  refine Qs<|Qs<|Qp<|(Qm)<|(QE)<|Qn ?_
  refine e_cond rfl ?_ ?_
  · intro hc0
    have hc0 := of_decide_eq_true hc0
    obtain ⟨i, rfl⟩ : ∃ i, n = i + 1 := ⟨n - 1, by omega⟩
    have hsm := leN_small hl hb i
    have hbi : l[i] < 256 := hb _ (List.getElem_mem _)
    refine Qk<|Qs<|Qb<|Qp<|(Qm) ?_
    refine e_mul_u (q := 256) rfl rfl rfl  ?_
    refine e_as (congrArg u (Nat.mod_eq_of_lt (show leN (l.drop (i + 1)) * 256 < 18446744073709551616 by omega))) ?_
    refine (Qm)<|(Qm) ?_
    refine e_as (congrArg (Value.int .i64) (show ((i + 1 : Nat) : Int) - 1 = ((i : Nat) : Int) by omega)) ?_
    refine e_idxStr (Uu 9) rfl rfl (List.getElem?_eq_getElem (show i < l.length by omega)) (hb _ (List.getElem_mem _)) rfl ?_
    refine e_conv_u (Uu 5) (Uu 24) rfl rfl rfl ?_
    refine e_as (congrArg u (Nat.mod_eq_of_lt (show l[i] < 18446744073709551616 by omega))) ?_
    refine e_add_u rfl rfl rfl  ?_
    refine e_as (congrArg u (Nat.mod_eq_of_lt (show leN (l.drop (i + 1)) * 256 + l[i] < 18446744073709551616 by omega))) ?_
    refine (Qa)<|Qn<|Qp<|(Qm) ?_
    refine e_sub_z (q := 1) rfl rfl rfl (by omega) (by omega) ?_
    refine (Qa)<|Qn ?_
    refine Qzr ⟨i, rfl, rfl, rfl, by omega⟩ ⟨rfl, by rw [leN_drop (show i < l.length by omega)]; rfl, congrArg (fun z => some (Value.int .i64 z)) (show ((i + 1 : Nat) : Int) - 1 - 1 = ((i : Nat) : Int) - 1 by omega), trivial⟩ trivial ?_
    omega
  · intro hc0
    have hc0 := of_decide_eq_false hc0
    have hn0 : n = 0 := by omega
    subst hn0
    refine Qe<|Qs<|Qp<|(Qm)<|(Qa)<|Qn<|Qr ?_
    exact ⟨_, rfl, .tmp rfl⟩
end Go.Proofs.YtbjaenjgahjikaaDoor
namespace Go.Proofs.YtbjaenjgahjikaaDoor
open Go Go.RowKit
variable {G : Mem}
set_option maxHeartbeats 400000 in
theorem orderOf_fn (r i : Nat) (hr : r < 10) (hi : i < 16) : Fn Tryd.prog G 73 #[ii r, ii i] (ii (sig r i)) := by
  obtain ⟨o1, o2, o3, o4⟩ := ord_all (16 * r + i) (by omega)
  obtain ⟨c, hc⟩ : ∃ c, c = ordL.getD (16 * r + i) 0 := ⟨_, rfl⟩
  rw [← hc] at o1 o2 o3 o4
  refine Qf1 Tryd.func73 ?_
  refine Qs<|Qp<|(Qa)<|Qn<|Qs<|Qp<|(Qm)<|(Q7 16)<|(Qm)<|(Q3) ?_
  refine e_idxStr (l := [48, 49, 50, 51, 52, 53, 54, 55, 56, 57, 97, 98, 99, 100, 101, 102, 101, 97, 52, 56, 57, 102, 100, 54, 49, 99, 48, 50, 98, 55, 53, 51, 98, 56, 99, 48, 53, 50, 102, 100, 97, 101, 51, 54, 55, 49, 57, 52, 55, 57, 51, 49, 100, 99, 98, 101, 50, 54, 53, 97, 52, 48, 102, 56, 57, 48, 53, 55, 50, 52, 97, 102, 101, 49, 98, 99, 54, 56, 51, 100, 50, 99, 54, 97, 48, 98, 56, 51, 52, 100, 55, 53, 102, 101, 49, 57, 99, 53, 49, 102, 101, 100, 52, 97, 48, 55, 54, 51, 57, 50, 56, 98, 100, 98, 55, 101, 99, 49, 51, 57, 53, 48, 102, 52, 56, 54, 50, 97, 54, 102, 101, 57, 98, 51, 48, 56, 99, 50, 100, 55, 49, 52, 97, 53, 97, 50, 56, 52, 55, 54, 49, 53, 102, 98, 57, 101, 51, 99, 100, 48]) (Uu 9) rfl rfl o1 o2 rfl ?_
  refine (Qa)<|Qn<|Qs<|Qs<|Qp<|(Qm)<|(QE)<|Qn ?_
  refine e_cond rfl ?_ ?_
  · intro hc0
    have hc0 := of_decide_eq_true hc0
    refine Qs<|Qp<|(Qm) ?_
    refine e_sub_b (q := 97) rfl rfl rfl (by omega) ?_
    refine e_as (congrArg by8 (show (c + 256 - 97) % 256 = c - 97 by omega)) ?_
    refine e_conv_i (Uu 5) (Uu 3) rfl rfl rfl (by omega) ?_
    refine (Q2 10) ?_
    refine e_as (congrArg ii (o3 (by omega))) ?_
    refine (Qa)<|Qn<|Qr ?_
    exact ⟨_, rfl, .tmp rfl⟩
  · intro hc0
    have hc0 := of_decide_eq_false hc0
    refine Qk<|Qs<|Qp<|(Qm) ?_
    refine e_sub_b (q := 48) rfl rfl rfl (by omega) ?_
    refine e_as (congrArg by8 (show (c + 256 - 48) % 256 = c - 48 by have := o4 (by omega); omega)) ?_
    refine e_conv_i (Uu 5) (Uu 3) rfl rfl rfl (by omega) ?_
    refine e_as (congrArg ii (o4 (by omega)).2) ?_
    refine (Qa)<|Qn<|Qr ?_
    exact ⟨_, rfl, .tmp rfl⟩
set_option maxHeartbeats 400000 in
theorem word_fn (rb r i : Nat) (b : List Nat) (hb : ∀ x ∈ b, x < 256) (hl : b.length = 64) (hr : r < 10) (hi : i < 16) : Fn Tryd.prog [⟨rb, #[sv b], 9⟩] 72 #[ii r, ii i, ptr rb] (uw (wrd b (sig r i))) := by
  have hsg := sig_lt r i
  refine Qf1 Tryd.func72 ?_
  refine Qs<|Qp<|(Qa)<|Qn<|Qs<|Qp<|(Qm)<|(Qm) ?_
  refine e_call rfl (Un 73) (orderOf_fn r i hr hi) rfl rfl ?_
  refine (Qa)<|Qn<|Qs<|Qp ?_
  refine e_load1g (i := 0) (Uu 9) rfl rfl rfl rfl rfl ?_
  refine (Qm)<|(Q7 4)<|(Qm)<|(Q7 4)<|(Q2 4) ?_
  refine e_sliceStr (4 * sig r i) (4 * sig r i + 4) (Uu 9) rfl rfl rfl ⟨_, rfl⟩ ⟨_, rfl⟩ (by omega) (by omega) rfl ?_
  refine e_as (congrArg (fun z => sv ((b.drop (4 * sig r i)).take z)) (show 4 * sig r i + 4 - 4 * sig r i = 4 by omega)) ?_
  refine e_call rfl (Un 74) (number_fn _ (cut4_len b (sig r i)) (cut4_lt hb (sig r i))) rfl rfl ?_
  refine e_conv_wn (Uu 24) (Uu 63) rfl rfl rfl (wrd_lt hb (sig r i)) ?_
  refine (Qa)<|Qn<|Qr ?_
  exact ⟨_, rfl, .tmp rfl⟩
set_option maxHeartbeats 400000 in
theorem shp_fn (p : Nat) (hp : p ≤ 1) (f : Nat → Nat) : Fn Tryd.prog G 75 #[.agg (arr .u32 16 f), ii p] (.agg (arr .u32 16 (shp p f))) := by
  refine Qf1 Tryd.func75 ?_
  refine Qs<|Qp<|(Qh 0) fun r1=>(QH 1) fun r2=>Qn<|Qs<|Qp<|(QH 2) fun r3=>Qn<|Qs<|Qs<|Qp<|(Qm)<|Qn<|Qb ?_
  refine QzK [(1, _), (2, _), (4, _), (5, _)] [(0, _), (1, _)] (fun kk E m => ∃ (k : Nat) (s : Nat → Nat), kk = 4 - k ∧ E = [(8, ii k)] ∧ m = [(2, some ⟨r3, arr .u32 16 s, 104⟩)] ∧ (k ≤ 4) ∧ (∀ t, t < 4 * k → s t = shp p f t)) ⟨0, fun _ => 0, rfl, rfl, rfl, by omega, fun t ht => absurd ht (Nat.not_lt_zero t)⟩ ⟨rfl, rfl, rfl, rfl, rfl, trivial⟩ ⟨rfl, rfl, rfl, trivial⟩ ?_
  rintro kk E m ⟨k, s, rfl, rfl, rfl, hf0_0, hf0_1⟩
  simp only [catE, catL]
  refine Qs<|Qp<|(Ql)<|Qn<|Qs ?_
  refine e_cond rfl ?_ ?_
  · intro hc0
    have hc0 : k < 4 := by have := of_decide_eq_true hc0; omega
    refine Qk<|Qs<|Qb<|Qs<|Qp<|(Qm)<|(Qa)<|Qn<|Qs<|Qp<|(Qm)<|Qn<|Qb ?_
    refine QzK [(1, _), (2, _), (4, _), (5, _), (6, _), (8, _)] [(0, _), (1, _)] (fun kk E m => ∃ (j : Nat) (s2 : Nat → Nat), kk = 4 - j ∧ E = [(11, ii j)] ∧ m = [(2, some ⟨r3, arr .u32 16 s2, 104⟩)] ∧ (j ≤ 4) ∧ (∀ t, t < 4 * k + j → s2 t = shp p f t)) ⟨0, s, rfl, rfl, rfl, by omega, hf0_1⟩ ⟨rfl, rfl, rfl, rfl, rfl, rfl, rfl, trivial⟩ ⟨rfl, rfl, rfl, trivial⟩ ?_
    rintro kk E m ⟨j, s2, rfl, rfl, rfl, hf1_0, hf1_1⟩
    simp only [catE, catL]
    refine Qs<|Qp<|(Ql)<|Qn<|Qs ?_
    refine e_cond rfl ?_ ?_
    · intro hc1
      have hc1 : j < 4 := by have := of_decide_eq_true hc1; omega
      refine Qk<|Qs<|Qb<|Qs<|Qp<|(Qm)<|(Qa)<|Qn<|(Qg)<|(Qm)<|(Qm)<|(Qm)<|(Qm)<|(Q2 4)<|(Qm)<|(Qm) ?_
      have hpk : p * k < 4 := by rcases (by omega : p = 0 ∨ p = 1) with rfl | rfl <;> omega
      refine e_mul_i rfl rfl rfl (by omega) ?_
      refine (Q3)<|(Q4 4)<|(QB (4 * k))<|(QB (4 * k + (j + 4 + p * k) % 4))<|(Q1 0)<|(QB (4 * k))<|(QB (4 * k + j))<|(Qu 2)<|Qn<|Qp<|(Q2 1)<|(Qm)<|Qn ?_
      refine QzL ⟨j + 1, upd s2 (4 * k + j) _, rfl, rfl, rfl, by omega, sh_at (shp p) f s2 (shp_v p f (by omega)) hf1_1⟩ ⟨rfl, rfl, rfl, rfl, rfl, rfl, rfl, trivial⟩ ⟨rfl, rfl, rfl, trivial⟩ ?_
      omega
    · intro hc1
      have hc1 := of_decide_eq_false hc1
      have hz1 : j = 4 := by omega
      subst hz1
      refine Qe<|Qp<|(Q2 1)<|(Qm)<|Qn ?_
      refine QzL ⟨k + 1, s2, rfl, rfl, rfl, by omega, by rw [show 4 * (k + 1) = 4 * k + 4 by omega]; exact hf1_1⟩ ⟨rfl, rfl, rfl, rfl, rfl, trivial⟩ ⟨rfl, rfl, rfl, trivial⟩ ?_
      omega
  · intro hc0
    have hc0 := of_decide_eq_false hc0
    have hz0 : k = 4 := by omega
    subst hz0
    refine Qe<|Qs<|Qp<|(Qd 2)<|(Qt 1)<|Qn<|Qr ?_
    rw [← arr_congr hf0_1]
    exact ⟨_, rfl, .cell (i := 1) rfl rfl (Uu 104) rfl (Uz 104) (arr_size _ _ _)⟩
set_option maxHeartbeats 400000 in
theorem shn_fn (p : Nat) (hp : p ≤ 1) (f : Nat → Nat) : Fn Tryd.prog G 75 #[.agg (arr .u32 16 f), .int .i64 (-(p : Int))] (.agg (arr .u32 16 (shn p f))) := by
  refine Qf1 Tryd.func75 ?_
  refine Qs<|Qp<|(Qh 0) fun r1=>(QH 1) fun r2=>Qn<|Qs<|Qp<|(QH 2) fun r3=>Qn<|Qs<|Qs<|Qp<|(Qm)<|Qn<|Qb ?_
  refine QzK [(1, _), (2, _), (4, _), (5, _)] [(0, _), (1, _)] (fun kk E m => ∃ (k : Nat) (s : Nat → Nat), kk = 4 - k ∧ E = [(8, ii k)] ∧ m = [(2, some ⟨r3, arr .u32 16 s, 104⟩)] ∧ (k ≤ 4) ∧ (∀ t, t < 4 * k → s t = shn p f t)) ⟨0, fun _ => 0, rfl, rfl, rfl, by omega, fun t ht => absurd ht (Nat.not_lt_zero t)⟩ ⟨rfl, rfl, rfl, rfl, rfl, trivial⟩ ⟨rfl, rfl, rfl, trivial⟩ ?_
  rintro kk E m ⟨k, s, rfl, rfl, rfl, hf0_0, hf0_1⟩
  simp only [catE, catL]
  refine Qs<|Qp<|(Ql)<|Qn<|Qs ?_
  refine e_cond rfl ?_ ?_
  · intro hc0
    have hc0 : k < 4 := by have := of_decide_eq_true hc0; omega
    refine Qk<|Qs<|Qb<|Qs<|Qp<|(Qm)<|(Qa)<|Qn<|Qs<|Qp<|(Qm)<|Qn<|Qb ?_
    refine QzK [(1, _), (2, _), (4, _), (5, _), (6, _), (8, _)] [(0, _), (1, _)] (fun kk E m => ∃ (j : Nat) (s2 : Nat → Nat), kk = 4 - j ∧ E = [(11, ii j)] ∧ m = [(2, some ⟨r3, arr .u32 16 s2, 104⟩)] ∧ (j ≤ 4) ∧ (∀ t, t < 4 * k + j → s2 t = shn p f t)) ⟨0, s, rfl, rfl, rfl, by omega, hf0_1⟩ ⟨rfl, rfl, rfl, rfl, rfl, rfl, rfl, trivial⟩ ⟨rfl, rfl, rfl, trivial⟩ ?_
    rintro kk E m ⟨j, s2, rfl, rfl, rfl, hf1_0, hf1_1⟩
    simp only [catE, catL]
    refine Qs<|Qp<|(Ql)<|Qn<|Qs ?_
    refine e_cond rfl ?_ ?_
    · intro hc1
      have hc1 : j < 4 := by have := of_decide_eq_true hc1; omega
      refine Qk<|Qs<|Qb<|Qs<|Qp<|(Qm)<|(Qa)<|Qn<|(Qg)<|(Qm)<|(Qm)<|(Qm)<|(Qm)<|(Q2 4)<|(Qm)<|(Qm) ?_
      have hpk : p * k < 4 := by rcases (by omega : p = 0 ∨ p = 1) with rfl | rfl <;> omega
      have hpk : p * k < 4 := by rcases (by omega : p = 0 ∨ p = 1) with rfl | rfl <;> omega
      have hpz : (-(p : Int)) * ((k : Nat) : Int) = -((p * k : Nat) : Int) := by rw [Int.neg_mul, Int.natCast_mul]
      refine e_mul_z rfl rfl rfl (by omega) (by omega) ?_
      refine e_as (congrArg (Value.int .i64) hpz) ?_
      refine e_add_z rfl rfl rfl (by omega) (by omega) ?_
      refine e_as (congrArg (Value.int .i64) (show ((j + 4 : Nat) : Int) + -((p * k : Nat) : Int) = ((j + 4 - p * k : Nat) : Int) by omega)) ?_
      refine (Q4 4)<|(QB (4 * k))<|(QB (4 * k + (j + 4 - p * k) % 4))<|(Q1 0)<|(QB (4 * k))<|(QB (4 * k + j))<|(Qu 2)<|Qn<|Qp<|(Q2 1)<|(Qm)<|Qn ?_
      refine QzL ⟨j + 1, upd s2 (4 * k + j) _, rfl, rfl, rfl, by omega, sh_at (shn p) f s2 (shn_v p f (by omega)) hf1_1⟩ ⟨rfl, rfl, rfl, rfl, rfl, rfl, rfl, trivial⟩ ⟨rfl, rfl, rfl, trivial⟩ ?_
      omega
    · intro hc1
      have hc1 := of_decide_eq_false hc1
      have hz1 : j = 4 := by omega
      subst hz1
      refine Qe<|Qp<|(Q2 1)<|(Qm)<|Qn ?_
      refine QzL ⟨k + 1, s2, rfl, rfl, rfl, by omega, by rw [show 4 * (k + 1) = 4 * k + 4 by omega]; exact hf1_1⟩ ⟨rfl, rfl, rfl, rfl, rfl, trivial⟩ ⟨rfl, rfl, rfl, trivial⟩ ?_
      omega
  · intro hc0
    have hc0 := of_decide_eq_false hc0
    have hz0 : k = 4 := by omega
    subst hz0
    refine Qe<|Qs<|Qp<|(Qd 2)<|(Qt 1)<|Qn<|Qr ?_
    rw [← arr_congr hf0_1]
    exact ⟨_, rfl, .cell (i := 1) rfl rfl (Uu 104) rfl (Uz 104) (arr_size _ _ _)⟩
end Go.Proofs.YtbjaenjgahjikaaDoor
namespace Go.Proofs.YtbjaenjgahjikaaDoor
open Go Go.RowKit
variable {G : Mem}
set_option maxHeartbeats 8000000 in
theorem squeezed_true (h : Nat → Nat) (b : List Nat) (many : Nat) (hb : ∀ x ∈ b, x < 256) (hl : b.length = 64) : Fn Tryd.prog ((⟨0, arr .u32 8 ivf, 64⟩ : Blk) :: G) 56 #[.agg (arr .u32 8 h), sv b, ii many, .bool true] (.agg (arr .u32 8 (sqz h b many true))) := by
  refine Qf1 Tryd.func56 ?_
  refine Qs<|Qp<|(Qh 0) fun r1=>(Qh 1) fun r2=>(QH 2) fun r3=>Qn<|Qs<|Qp<|(QH 3) fun r4=>Qn<|Qs<|Qs<|Qp<|(Qm)<|Qn<|Qb ?_
  refine QzK [(2, _), (3, _), (4, _), (5, _), (8, _), (9, _)] [(0, _), (1, _), (2, _)] (fun kk E m => ∃ (i : Nat) (s : Nat → Nat), kk = 8 - i ∧ E = [(18, ii i)] ∧ m = [(3, some ⟨r4, arr .u32 16 s, 104⟩)] ∧ (i ≤ 8) ∧ (∀ t, t < 16 → s t = if t % 8 < i then w00 h t else 0)) ⟨0, fun _ => 0, rfl, rfl, rfl, by omega, fun t _ => by rw [if_neg (by omega)]⟩ ⟨rfl, rfl, rfl, rfl, rfl, rfl, rfl, trivial⟩ ⟨rfl, rfl, rfl, rfl, trivial⟩ ?_
  rintro kk E m ⟨i, s, rfl, rfl, rfl, hf0_0, hf0_1⟩
  simp only [catE, catL]
  refine Qs<|Qp<|(Ql)<|Qn<|Qs ?_
  refine e_cond rfl ?_ ?_
  · intro hc0
    have hc0 : i < 8 := by have := of_decide_eq_true hc0; omega
    refine Qk<|Qs<|Qb<|Qs<|Qp<|(Qm)<|(Qa)<|Qn<|(Qq ⟨[r4], 1, [], none⟩)<|(Qm)<|(Q5 4)<|(Qm)<|(Q4 4)<|(Qm)<|(Q5 4) ?_
    refine e_add_i (p := 2) rfl rfl rfl (by omega) ?_
    refine (Qm)<|(Q4 4)<|(Qm)<|(Qi) ?_
    refine e_load1 (i := 0) (Uu 63) rfl rfl rfl (arr_get (by omega)) rfl ⟨[3], rfl, rfl, trivial⟩ ?_
    refine (Qm)<|(Qi) ?_
    refine e_load1g (i := 0) (Uu 63) rfl rfl rfl (arr_get (by omega)) rfl ?_
    refine (QB (4 * (i / 4)))<|(QB (i)) ?_
    refine e_storeN (i := 3) (Uz 63) rfl rfl rfl (by omega) (.inr (by simp)) ?_
    refine (QB (4 * (2 + i / 4)))<|(QB (8 + i)) ?_
    refine e_storeN (i := 3) (Uz 63) rfl rfl rfl (by omega) (.inr (by simp)) ?_
    refine Qn<|Qp<|(Q2 1)<|(Qm)<|Qn ?_
    refine QzL ⟨i + 1, upd (upd s i _) (8 + i) _, rfl, rfl, rfl, by omega, w00_step (by omega) hf0_1⟩ ⟨rfl, rfl, rfl, rfl, rfl, rfl, rfl, trivial⟩ ⟨rfl, rfl, rfl, rfl, trivial⟩ ?_
    omega
  · intro hc0
    have hc0 := of_decide_eq_false hc0
    have hz0 : i = 8 := by omega
    subst hz0
    refine Qe<|Qs<|Qp<|(QA 12 3)<|(QA 12 0)<|(Q1 3)<|(Qm) ?_
    refine e_conv_w (Uu 3) (Uu 63) rfl rfl rfl ?_
    refine e_xor_w rfl rfl rfl  ?_
    refine (QA 12 3)<|(QA 12 0)<|(Qu 3)<|Qn<|Qs<|Qs<|Qp<|(Qm)<|Qn<|(Qct)<|Qp<|(QA 12 3)<|(QA 14 2)<|(Q1 3) ?_
    refine e_compl_w rfl rfl ?_
    refine (QA 12 3)<|(QA 14 2)<|(Qu 3)<|Qn<|Qs<|Qp<|(QY)<|(Qa)<|Qn<|Qs<|Qs<|Qp<|(Qm)<|Qn<|Qb ?_
    refine QzK [(2, _), (3, _), (4, _), (5, _), (8, _), (9, _), (11, _), (18, _)] [(0, _), (1, _), (2, _)] (fun kk E m => ∃ (r : Nat), kk = 10 - r ∧ E = [(57, ii r)] ∧ m = [(3, some ⟨r4, arr .u32 16 (brs b (w0 h many true) r), 104⟩)] ∧ (r ≤ 10)) ⟨0, rfl, rfl, rfl, by omega⟩ ⟨rfl, rfl, rfl, rfl, rfl, rfl, rfl, rfl, rfl, trivial⟩ ⟨(congrArg (fun c => some (⟨r4, c, 104⟩ : Blk)) (arr_congr (fun t ht => (w0_true hf0_1 t ht).trans (congrFun (brs_zero b (w0 h many true)) t)))), rfl, rfl, rfl, trivial⟩ ?_
    rintro kk E m ⟨r, rfl, rfl, rfl, hf1_0⟩
    simp only [catE, catL]
    refine Qs<|Qp<|(Ql)<|Qn<|Qs ?_
    refine e_cond rfl ?_ ?_
    · intro hc2
      have hc2 : r < 10 := by have := of_decide_eq_true hc2; omega
      refine Qk<|Qs<|Qb<|Qs<|Qp<|(Qm)<|(Qa)<|Qn<|Qs<|Qp<|(Qm)<|Qn<|Qb ?_
      refine QzK [(2, _), (3, _), (4, _), (5, _), (8, _), (9, _), (11, _), (12, _), (18, _), (57, _)] [(0, _), (1, _), (2, _)] (fun kk E m => ∃ (p : Nat), kk = 2 - p ∧ E = [(60, ii p)] ∧ m = [(3, some ⟨r4, arr .u32 16 (bpart b r (brs b (w0 h many true) r) p), 104⟩)] ∧ (p ≤ 2)) ⟨0, rfl, rfl, rfl, by omega⟩ ⟨rfl, rfl, rfl, rfl, rfl, rfl, rfl, rfl, rfl, rfl, rfl, trivial⟩ ⟨(blk_arr (bpart_zero b r (brs b (w0 h many true) r))), rfl, rfl, rfl, trivial⟩ ?_
      rintro kk E m ⟨p, rfl, rfl, rfl, hf2_0⟩
      simp only [catE, catL]
      refine Qs<|Qp<|(Ql)<|Qn<|Qs ?_
      refine e_cond rfl ?_ ?_
      · intro hc3
        have hc3 : p < 2 := by have := of_decide_eq_true hc3; omega
        refine Qk<|Qs<|Qb<|Qs<|Qp<|(Qm)<|(Qa)<|Qn<|Qs<|Qp<|(Qd 3)<|(Qm) ?_
        refine e_call rfl (Un 75) (shp_fn p (by omega) _) rfl rfl ?_
        refine (Qt 3)<|Qn<|Qs<|Qs<|Qp<|(Qm)<|Qn<|Qb ?_
        refine QzK [(2, _), (3, _), (4, _), (5, _), (8, _), (9, _), (11, _), (12, _), (13, _), (18, _), (57, _), (60, _)] [(0, _), (1, _), (2, _)] (fun kk E m => ∃ (c : Nat) (s : Nat → Nat), kk = 4 - c ∧ E = [(66, ii c)] ∧ m = [(3, some ⟨r4, arr .u32 16 s, 104⟩)] ∧ (c ≤ 4) ∧ (∀ t, t < 16 → s t = if t % 4 < c then brn (xw b r p) (yw b r p) (shp p (bpart b r (brs b (w0 h many true) r) p)) t else (shp p (bpart b r (brs b (w0 h many true) r) p)) t)) ⟨0, (shp p (bpart b r (brs b (w0 h many true) r) p)), rfl, rfl, rfl, by omega, fun t _ => by rw [if_neg (by omega)]⟩ ⟨rfl, rfl, rfl, rfl, rfl, rfl, rfl, rfl, rfl, rfl, rfl, rfl, rfl, trivial⟩ ⟨rfl, rfl, rfl, rfl, trivial⟩ ?_
        rintro kk E m ⟨c, s, rfl, rfl, rfl, hf3_0, hf3_1⟩
        simp only [catE, catL]
        refine Qs<|Qp<|(Ql)<|Qn<|Qs ?_
        refine e_cond rfl ?_ ?_
        · intro hc4
          have hc4 : c < 4 := by have := of_decide_eq_true hc4; omega
          refine Qk<|Qs<|Qb<|Qs<|Qp<|(Qm)<|(Qa)<|Qn<|Qs<|Qp<|(Qm)<|(Qm)<|(Qm)<|(Q7 8)<|(Qm)<|(Q7 2)<|(Q3) ?_
          refine e_callV [⟨r2, #[sv b], 9⟩] rfl rfl (Un 72) ⟨⟨1, rfl⟩, trivial⟩ (word_fn r2 r (8 * p + 2 * c) b hb hl (by omega) (by omega)) rfl rfl rfl ?_
          refine (Qm)<|(Qm)<|(Qm)<|(Q7 8)<|(Qm)<|(Q7 2)<|(Q3)<|(Q2 1) ?_
          refine e_callV [⟨r2, #[sv b], 9⟩] rfl rfl (Un 72) ⟨⟨1, rfl⟩, trivial⟩ (word_fn r2 r (8 * p + 2 * c + 1) b hb hl (by omega) (by omega)) rfl rfl rfl ?_
          refine (Qa)<|(Qa)<|Qn<|Qs<|(Qg)<|(Qm)<|(QA 0 0)<|(Qi)<|(Q1 3)<|(Qm)<|(QA 4 1)<|(QB (4 + c))<|(Q1 3)<|(Qm) ?_
          refine e_add_w rfl rfl rfl  ?_
          refine e_add_w rfl rfl rfl  ?_
          refine e_gen_w fun q1 hq1 => ?_
          refine (QA 0 0)<|(Qi)<|(Qu 3)<|Qn<|Qs<|(Qg)<|(Qm)<|(Qm)<|(QA 12 3)<|(QB (12 + c))<|(Q1 3)<|(Qm)<|(QA 0 0)<|(Qi)<|(Q1 3) ?_
          refine e_xor_w rfl rfl rfl  ?_
          refine e_call rfl (Un 76) (left_fn _ _ (by decide)) rfl rfl ?_
          refine e_gen_w fun q2 hq2 => ?_
          refine (QA 12 3)<|(QB (12 + c))<|(Qu 3)<|Qn<|Qs<|(Qg)<|(Qm)<|(QA 8 2)<|(QB (8 + c))<|(Q1 3)<|(Qm)<|(QA 12 3)<|(QB (12 + c))<|(Q1 3) ?_
          refine e_add_w rfl rfl rfl  ?_
          refine e_gen_w fun q3 hq3 => ?_
          refine (QA 8 2)<|(QB (8 + c))<|(Qu 3)<|Qn<|Qs<|(Qg)<|(Qm)<|(Qm)<|(QA 4 1)<|(QB (4 + c))<|(Q1 3)<|(Qm)<|(QA 8 2)<|(QB (8 + c))<|(Q1 3) ?_
          refine e_xor_w rfl rfl rfl  ?_
          refine e_call rfl (Un 76) (left_fn _ _ (by decide)) rfl rfl ?_
          refine e_gen_w fun q4 hq4 => ?_
          refine (QA 4 1)<|(QB (4 + c))<|(Qu 3)<|Qn<|Qs<|(Qg)<|(Qm)<|(QA 0 0)<|(Qi)<|(Q1 3)<|(Qm)<|(QA 4 1)<|(QB (4 + c))<|(Q1 3)<|(Qm) ?_
          refine e_add_w rfl rfl rfl  ?_
          refine e_add_w rfl rfl rfl  ?_
          refine e_gen_w fun q5 hq5 => ?_
          refine (QA 0 0)<|(Qi)<|(Qu 3)<|Qn<|Qs<|(Qg)<|(Qm)<|(Qm)<|(QA 12 3)<|(QB (12 + c))<|(Q1 3)<|(Qm)<|(QA 0 0)<|(Qi)<|(Q1 3) ?_
          refine e_xor_w rfl rfl rfl  ?_
          refine e_call rfl (Un 76) (left_fn _ _ (by decide)) rfl rfl ?_
          refine e_gen_w fun q6 hq6 => ?_
          refine (QA 12 3)<|(QB (12 + c))<|(Qu 3)<|Qn<|Qs<|(Qg)<|(Qm)<|(QA 8 2)<|(QB (8 + c))<|(Q1 3)<|(Qm)<|(QA 12 3)<|(QB (12 + c))<|(Q1 3) ?_
          refine e_add_w rfl rfl rfl  ?_
          refine e_gen_w fun q7 hq7 => ?_
          refine (QA 8 2)<|(QB (8 + c))<|(Qu 3)<|Qn<|(Qg)<|(Qm)<|(Qm)<|(QA 4 1)<|(QB (4 + c))<|(Q1 3)<|(Qm)<|(QA 8 2)<|(QB (8 + c))<|(Q1 3) ?_
          refine e_xor_w rfl rfl rfl  ?_
          refine e_call rfl (Un 76) (left_fn _ _ (by decide)) rfl rfl ?_
          refine e_gen_w fun q8 hq8 => ?_
          refine (QA 4 1)<|(QB (4 + c))<|(Qu 3)<|Qn<|Qp<|(Q2 1)<|(Qm)<|Qn ?_
          refine QzL ⟨c + 1, upd (upd (upd (upd (upd (upd (upd (upd s c q1) (12 + c) q2) (8 + c) q3) (4 + c) q4) c q5) (12 + c) q6) (8 + c) q7) (4 + c) q8, rfl, rfl, rfl, by omega, brn_step (by omega) hf3_1 _ rfl (bst_eqs (by omega) hq1 hq2 hq3 hq4 hq5 hq6 hq7 hq8)⟩ ⟨rfl, rfl, rfl, rfl, rfl, rfl, rfl, rfl, rfl, rfl, rfl, rfl, rfl, trivial⟩ ⟨rfl, rfl, rfl, rfl, trivial⟩ ?_
          omega
        · intro hc4
          have hc4 := of_decide_eq_false hc4
          have hz3 : c = 4 := by omega
          refine Qe<|Qp<|(Qd 3) ?_
          refine e_as (congrArg Value.agg (arr_congr (fun t ht => (hf3_1 t ht).trans (if_pos (by omega))))) ?_
          refine (Qm) ?_
          refine e_neg_z rfl rfl (by omega) (by omega) ?_
          refine e_call rfl (Un 75) (shn_fn p (by omega) _) rfl rfl ?_
          refine (Qt 3)<|Qn<|Qp<|(Q2 1)<|(Qm)<|Qn ?_
          refine QzL ⟨p + 1, rfl, rfl, rfl, by omega⟩ ⟨rfl, rfl, rfl, rfl, rfl, rfl, rfl, rfl, rfl, rfl, rfl, trivial⟩ ⟨(blk_arr (bpart_succ b r (brs b (w0 h many true) r) p)), rfl, rfl, rfl, trivial⟩ ?_
          omega
      · intro hc3
        have hc3 := of_decide_eq_false hc3
        have hz2 : p = 2 := by omega
        refine Qe<|Qp<|(Q2 1)<|(Qm)<|Qn ?_
        refine QzL ⟨r + 1, rfl, rfl, rfl, by omega⟩ ⟨rfl, rfl, rfl, rfl, rfl, rfl, rfl, rfl, rfl, trivial⟩ ⟨(blk_arr ((congrArg (bpart b r (brs b (w0 h many true) r)) hz2).trans (brs_succ b (w0 h many true) r))), rfl, rfl, rfl, trivial⟩ ?_
        omega
    · intro hc2
      have hc2 := of_decide_eq_false hc2
      have hz1 : r = 10 := by omega
      refine Qe<|Qs<|Qs<|Qp<|(Qm)<|Qn<|Qb ?_
      refine QzK [(2, _), (3, _), (4, _), (5, _), (8, _), (9, _), (11, _), (18, _), (57, _)] [(1, _), (2, _), (3, _)] (fun kk E m => ∃ (q : Nat) (s2 : Nat → Nat), kk = 8 - q ∧ E = [(193, ii q)] ∧ m = [(0, some ⟨r1, arr .u32 8 s2, 64⟩)] ∧ (q ≤ 8) ∧ (∀ t, t < 8 → s2 t = if t < q then sqz h b many true t else h t)) ⟨0, h, rfl, rfl, rfl, by omega, fun t _ => by rw [if_neg (by omega)]⟩ ⟨rfl, rfl, rfl, rfl, rfl, rfl, rfl, rfl, rfl, rfl, trivial⟩ ⟨rfl, rfl, rfl, rfl, trivial⟩ ?_
      rintro kk E m ⟨q, s2, rfl, rfl, rfl, hf4_0, hf4_1⟩
      simp only [catE, catL]
      refine Qs<|Qp<|(Ql)<|Qn<|Qs ?_
      refine e_cond rfl ?_ ?_
      · intro hc5
        have hc5 : q < 8 := by have := of_decide_eq_true hc5; omega
        refine Qk<|Qs<|Qb<|Qs<|Qp<|(Qm)<|(Qa)<|Qn<|(Qg)<|(Qm)<|(Qi)<|(Q1 0)<|(Qm)<|(Q5 4)<|(Qm)<|(Q4 4)<|(QB (4 * (q / 4)))<|(QB (q))<|(Q1 3)<|(Qm)<|(Q5 4) ?_
        refine e_add_i (p := 2) rfl rfl rfl (by omega) ?_
        refine (Qm)<|(Q4 4)<|(QB (4 * (2 + q / 4)))<|(QB (8 + q))<|(Q1 3) ?_
        refine e_xor_w rfl rfl rfl  ?_
        refine e_xor_w rfl rfl rfl  ?_
        refine (Qi)<|(Qu 0)<|Qn<|Qp<|(Q2 1)<|(Qm)<|Qn ?_
        refine QzL ⟨q + 1, upd s2 q _, rfl, rfl, rfl, by omega, sqz_step (by omega) (congrArg (brs b (w0 h many true)) hz1) hf4_1⟩ ⟨rfl, rfl, rfl, rfl, rfl, rfl, rfl, rfl, rfl, rfl, trivial⟩ ⟨rfl, rfl, rfl, rfl, trivial⟩ ?_
        omega
      · intro hc5
        have hc5 := of_decide_eq_false hc5
        have hz4 : q = 8 := by omega
        subst hz4
        refine Qe<|Qs<|Qp<|(Qd 0)<|(Qt 2)<|Qn<|Qr ?_
        rw [← sqz_all hf4_1]
        exact ⟨_, rfl, .cell (i := 2) rfl rfl (Uu 64) rfl (Uz 64) (arr_size _ _ _)⟩
end Go.Proofs.YtbjaenjgahjikaaDoor
namespace Go.Proofs.YtbjaenjgahjikaaDoor
open Go Go.RowKit
variable {G : Mem}
set_option maxHeartbeats 8000000 in
theorem squeezed_false (h : Nat → Nat) (b : List Nat) (many : Nat) (hb : ∀ x ∈ b, x < 256) (hl : b.length = 64) : Fn Tryd.prog ((⟨0, arr .u32 8 ivf, 64⟩ : Blk) :: G) 56 #[.agg (arr .u32 8 h), sv b, ii many, .bool false] (.agg (arr .u32 8 (sqz h b many false))) := by
  refine Qf1 Tryd.func56 ?_
  refine Qs<|Qp<|(Qh 0) fun r1=>(Qh 1) fun r2=>(QH 2) fun r3=>Qn<|Qs<|Qp<|(QH 3) fun r4=>Qn<|Qs<|Qs<|Qp<|(Qm)<|Qn<|Qb ?_
  refine QzK [(2, _), (3, _), (4, _), (5, _), (8, _), (9, _)] [(0, _), (1, _), (2, _)] (fun kk E m => ∃ (i : Nat) (s : Nat → Nat), kk = 8 - i ∧ E = [(18, ii i)] ∧ m = [(3, some ⟨r4, arr .u32 16 s, 104⟩)] ∧ (i ≤ 8) ∧ (∀ t, t < 16 → s t = if t % 8 < i then w00 h t else 0)) ⟨0, fun _ => 0, rfl, rfl, rfl, by omega, fun t _ => by rw [if_neg (by omega)]⟩ ⟨rfl, rfl, rfl, rfl, rfl, rfl, rfl, trivial⟩ ⟨rfl, rfl, rfl, rfl, trivial⟩ ?_
  rintro kk E m ⟨i, s, rfl, rfl, rfl, hf0_0, hf0_1⟩
  simp only [catE, catL]
  refine Qs<|Qp<|(Ql)<|Qn<|Qs ?_
  refine e_cond rfl ?_ ?_
  · intro hc0
    have hc0 : i < 8 := by have := of_decide_eq_true hc0; omega
    refine Qk<|Qs<|Qb<|Qs<|Qp<|(Qm)<|(Qa)<|Qn<|(Qq ⟨[r4], 1, [], none⟩)<|(Qm)<|(Q5 4)<|(Qm)<|(Q4 4)<|(Qm)<|(Q5 4) ?_
    refine e_add_i (p := 2) rfl rfl rfl (by omega) ?_
    refine (Qm)<|(Q4 4)<|(Qm)<|(Qi) ?_
    refine e_load1 (i := 0) (Uu 63) rfl rfl rfl (arr_get (by omega)) rfl ⟨[3], rfl, rfl, trivial⟩ ?_
    refine (Qm)<|(Qi) ?_
    refine e_load1g (i := 0) (Uu 63) rfl rfl rfl (arr_get (by omega)) rfl ?_
    refine (QB (4 * (i / 4)))<|(QB (i)) ?_
    refine e_storeN (i := 3) (Uz 63) rfl rfl rfl (by omega) (.inr (by simp)) ?_
    refine (QB (4 * (2 + i / 4)))<|(QB (8 + i)) ?_
    refine e_storeN (i := 3) (Uz 63) rfl rfl rfl (by omega) (.inr (by simp)) ?_
    refine Qn<|Qp<|(Q2 1)<|(Qm)<|Qn ?_
    refine QzL ⟨i + 1, upd (upd s i _) (8 + i) _, rfl, rfl, rfl, by omega, w00_step (by omega) hf0_1⟩ ⟨rfl, rfl, rfl, rfl, rfl, rfl, rfl, trivial⟩ ⟨rfl, rfl, rfl, rfl, trivial⟩ ?_
    omega
  · intro hc0
    have hc0 := of_decide_eq_false hc0
    have hz0 : i = 8 := by omega
    subst hz0
    refine Qe<|Qs<|Qp<|(QA 12 3)<|(QA 12 0)<|(Q1 3)<|(Qm) ?_
    refine e_conv_w (Uu 3) (Uu 63) rfl rfl rfl ?_
    refine e_xor_w rfl rfl rfl  ?_
    refine (QA 12 3)<|(QA 12 0)<|(Qu 3)<|Qn<|Qs<|Qs<|Qp<|(Qm)<|Qn<|(Qcf)<|Qk<|Qs<|Qp<|(QY)<|(Qa)<|Qn<|Qs<|Qs<|Qp<|(Qm)<|Qn<|Qb ?_
    refine QzK [(2, _), (3, _), (4, _), (5, _), (8, _), (9, _), (11, _), (18, _)] [(0, _), (1, _), (2, _)] (fun kk E m => ∃ (r : Nat), kk = 10 - r ∧ E = [(57, ii r)] ∧ m = [(3, some ⟨r4, arr .u32 16 (brs b (w0 h many false) r), 104⟩)] ∧ (r ≤ 10)) ⟨0, rfl, rfl, rfl, by omega⟩ ⟨rfl, rfl, rfl, rfl, rfl, rfl, rfl, rfl, rfl, trivial⟩ ⟨(congrArg (fun c => some (⟨r4, c, 104⟩ : Blk)) (arr_congr (fun t ht => (w0_false hf0_1 t ht).trans (congrFun (brs_zero b (w0 h many false)) t)))), rfl, rfl, rfl, trivial⟩ ?_
    rintro kk E m ⟨r, rfl, rfl, rfl, hf1_0⟩
    simp only [catE, catL]
    refine Qs<|Qp<|(Ql)<|Qn<|Qs ?_
    refine e_cond rfl ?_ ?_
    · intro hc2
      have hc2 : r < 10 := by have := of_decide_eq_true hc2; omega
      refine Qk<|Qs<|Qb<|Qs<|Qp<|(Qm)<|(Qa)<|Qn<|Qs<|Qp<|(Qm)<|Qn<|Qb ?_
      refine QzK [(2, _), (3, _), (4, _), (5, _), (8, _), (9, _), (11, _), (12, _), (18, _), (57, _)] [(0, _), (1, _), (2, _)] (fun kk E m => ∃ (p : Nat), kk = 2 - p ∧ E = [(60, ii p)] ∧ m = [(3, some ⟨r4, arr .u32 16 (bpart b r (brs b (w0 h many false) r) p), 104⟩)] ∧ (p ≤ 2)) ⟨0, rfl, rfl, rfl, by omega⟩ ⟨rfl, rfl, rfl, rfl, rfl, rfl, rfl, rfl, rfl, rfl, rfl, trivial⟩ ⟨(blk_arr (bpart_zero b r (brs b (w0 h many false) r))), rfl, rfl, rfl, trivial⟩ ?_
      rintro kk E m ⟨p, rfl, rfl, rfl, hf2_0⟩
      simp only [catE, catL]
      refine Qs<|Qp<|(Ql)<|Qn<|Qs ?_
      refine e_cond rfl ?_ ?_
      · intro hc3
        have hc3 : p < 2 := by have := of_decide_eq_true hc3; omega
        refine Qk<|Qs<|Qb<|Qs<|Qp<|(Qm)<|(Qa)<|Qn<|Qs<|Qp<|(Qd 3)<|(Qm) ?_
        refine e_call rfl (Un 75) (shp_fn p (by omega) _) rfl rfl ?_
        refine (Qt 3)<|Qn<|Qs<|Qs<|Qp<|(Qm)<|Qn<|Qb ?_
        refine QzK [(2, _), (3, _), (4, _), (5, _), (8, _), (9, _), (11, _), (12, _), (13, _), (18, _), (57, _), (60, _)] [(0, _), (1, _), (2, _)] (fun kk E m => ∃ (c : Nat) (s : Nat → Nat), kk = 4 - c ∧ E = [(66, ii c)] ∧ m = [(3, some ⟨r4, arr .u32 16 s, 104⟩)] ∧ (c ≤ 4) ∧ (∀ t, t < 16 → s t = if t % 4 < c then brn (xw b r p) (yw b r p) (shp p (bpart b r (brs b (w0 h many false) r) p)) t else (shp p (bpart b r (brs b (w0 h many false) r) p)) t)) ⟨0, (shp p (bpart b r (brs b (w0 h many false) r) p)), rfl, rfl, rfl, by omega, fun t _ => by rw [if_neg (by omega)]⟩ ⟨rfl, rfl, rfl, rfl, rfl, rfl, rfl, rfl, rfl, rfl, rfl, rfl, rfl, trivial⟩ ⟨rfl, rfl, rfl, rfl, trivial⟩ ?_
        rintro kk E m ⟨c, s, rfl, rfl, rfl, hf3_0, hf3_1⟩
        simp only [catE, catL]
        refine Qs<|Qp<|(Ql)<|Qn<|Qs ?_
        refine e_cond rfl ?_ ?_
        · intro hc4
          have hc4 : c < 4 := by have := of_decide_eq_true hc4; omega
          refine Qk<|Qs<|Qb<|Qs<|Qp<|(Qm)<|(Qa)<|Qn<|Qs<|Qp<|(Qm)<|(Qm)<|(Qm)<|(Q7 8)<|(Qm)<|(Q7 2)<|(Q3) ?_
          refine e_callV [⟨r2, #[sv b], 9⟩] rfl rfl (Un 72) ⟨⟨1, rfl⟩, trivial⟩ (word_fn r2 r (8 * p + 2 * c) b hb hl (by omega) (by omega)) rfl rfl rfl ?_
          refine (Qm)<|(Qm)<|(Qm)<|(Q7 8)<|(Qm)<|(Q7 2)<|(Q3)<|(Q2 1) ?_
          refine e_callV [⟨r2, #[sv b], 9⟩] rfl rfl (Un 72) ⟨⟨1, rfl⟩, trivial⟩ (word_fn r2 r (8 * p + 2 * c + 1) b hb hl (by omega) (by omega)) rfl rfl rfl ?_
          refine (Qa)<|(Qa)<|Qn<|Qs<|(Qg)<|(Qm)<|(QA 0 0)<|(Qi)<|(Q1 3)<|(Qm)<|(QA 4 1)<|(QB (4 + c))<|(Q1 3)<|(Qm) ?_
          refine e_add_w rfl rfl rfl  ?_
          refine e_add_w rfl rfl rfl  ?_
          refine e_gen_w fun q1 hq1 => ?_
          refine (QA 0 0)<|(Qi)<|(Qu 3)<|Qn<|Qs<|(Qg)<|(Qm)<|(Qm)<|(QA 12 3)<|(QB (12 + c))<|(Q1 3)<|(Qm)<|(QA 0 0)<|(Qi)<|(Q1 3) ?_
          refine e_xor_w rfl rfl rfl  ?_
          refine e_call rfl (Un 76) (left_fn _ _ (by decide)) rfl rfl ?_
          refine e_gen_w fun q2 hq2 => ?_
          refine (QA 12 3)<|(QB (12 + c))<|(Qu 3)<|Qn<|Qs<|(Qg)<|(Qm)<|(QA 8 2)<|(QB (8 + c))<|(Q1 3)<|(Qm)<|(QA 12 3)<|(QB (12 + c))<|(Q1 3) ?_
          refine e_add_w rfl rfl rfl  ?_
          refine e_gen_w fun q3 hq3 => ?_
          refine (QA 8 2)<|(QB (8 + c))<|(Qu 3)<|Qn<|Qs<|(Qg)<|(Qm)<|(Qm)<|(QA 4 1)<|(QB (4 + c))<|(Q1 3)<|(Qm)<|(QA 8 2)<|(QB (8 + c))<|(Q1 3) ?_
          refine e_xor_w rfl rfl rfl  ?_
          refine e_call rfl (Un 76) (left_fn _ _ (by decide)) rfl rfl ?_
          refine e_gen_w fun q4 hq4 => ?_
          refine (QA 4 1)<|(QB (4 + c))<|(Qu 3)<|Qn<|Qs<|(Qg)<|(Qm)<|(QA 0 0)<|(Qi)<|(Q1 3)<|(Qm)<|(QA 4 1)<|(QB (4 + c))<|(Q1 3)<|(Qm) ?_
          refine e_add_w rfl rfl rfl  ?_
          refine e_add_w rfl rfl rfl  ?_
          refine e_gen_w fun q5 hq5 => ?_
          refine (QA 0 0)<|(Qi)<|(Qu 3)<|Qn<|Qs<|(Qg)<|(Qm)<|(Qm)<|(QA 12 3)<|(QB (12 + c))<|(Q1 3)<|(Qm)<|(QA 0 0)<|(Qi)<|(Q1 3) ?_
          refine e_xor_w rfl rfl rfl  ?_
          refine e_call rfl (Un 76) (left_fn _ _ (by decide)) rfl rfl ?_
          refine e_gen_w fun q6 hq6 => ?_
          refine (QA 12 3)<|(QB (12 + c))<|(Qu 3)<|Qn<|Qs<|(Qg)<|(Qm)<|(QA 8 2)<|(QB (8 + c))<|(Q1 3)<|(Qm)<|(QA 12 3)<|(QB (12 + c))<|(Q1 3) ?_
          refine e_add_w rfl rfl rfl  ?_
          refine e_gen_w fun q7 hq7 => ?_
          refine (QA 8 2)<|(QB (8 + c))<|(Qu 3)<|Qn<|(Qg)<|(Qm)<|(Qm)<|(QA 4 1)<|(QB (4 + c))<|(Q1 3)<|(Qm)<|(QA 8 2)<|(QB (8 + c))<|(Q1 3) ?_
          refine e_xor_w rfl rfl rfl  ?_
          refine e_call rfl (Un 76) (left_fn _ _ (by decide)) rfl rfl ?_
          refine e_gen_w fun q8 hq8 => ?_
          refine (QA 4 1)<|(QB (4 + c))<|(Qu 3)<|Qn<|Qp<|(Q2 1)<|(Qm)<|Qn ?_
          refine QzL ⟨c + 1, upd (upd (upd (upd (upd (upd (upd (upd s c q1) (12 + c) q2) (8 + c) q3) (4 + c) q4) c q5) (12 + c) q6) (8 + c) q7) (4 + c) q8, rfl, rfl, rfl, by omega, brn_step (by omega) hf3_1 _ rfl (bst_eqs (by omega) hq1 hq2 hq3 hq4 hq5 hq6 hq7 hq8)⟩ ⟨rfl, rfl, rfl, rfl, rfl, rfl, rfl, rfl, rfl, rfl, rfl, rfl, rfl, trivial⟩ ⟨rfl, rfl, rfl, rfl, trivial⟩ ?_
          omega
        · intro hc4
          have hc4 := of_decide_eq_false hc4
          have hz3 : c = 4 := by omega
          refine Qe<|Qp<|(Qd 3) ?_
          refine e_as (congrArg Value.agg (arr_congr (fun t ht => (hf3_1 t ht).trans (if_pos (by omega))))) ?_
          refine (Qm) ?_
          refine e_neg_z rfl rfl (by omega) (by omega) ?_
          refine e_call rfl (Un 75) (shn_fn p (by omega) _) rfl rfl ?_
          refine (Qt 3)<|Qn<|Qp<|(Q2 1)<|(Qm)<|Qn ?_
          refine QzL ⟨p + 1, rfl, rfl, rfl, by omega⟩ ⟨rfl, rfl, rfl, rfl, rfl, rfl, rfl, rfl, rfl, rfl, rfl, trivial⟩ ⟨(blk_arr (bpart_succ b r (brs b (w0 h many false) r) p)), rfl, rfl, rfl, trivial⟩ ?_
          omega
      · intro hc3
        have hc3 := of_decide_eq_false hc3
        have hz2 : p = 2 := by omega
        refine Qe<|Qp<|(Q2 1)<|(Qm)<|Qn ?_
        refine QzL ⟨r + 1, rfl, rfl, rfl, by omega⟩ ⟨rfl, rfl, rfl, rfl, rfl, rfl, rfl, rfl, rfl, trivial⟩ ⟨(blk_arr ((congrArg (bpart b r (brs b (w0 h many false) r)) hz2).trans (brs_succ b (w0 h many false) r))), rfl, rfl, rfl, trivial⟩ ?_
        omega
    · intro hc2
      have hc2 := of_decide_eq_false hc2
      have hz1 : r = 10 := by omega
      refine Qe<|Qs<|Qs<|Qp<|(Qm)<|Qn<|Qb ?_
      refine QzK [(2, _), (3, _), (4, _), (5, _), (8, _), (9, _), (11, _), (18, _), (57, _)] [(1, _), (2, _), (3, _)] (fun kk E m => ∃ (q : Nat) (s2 : Nat → Nat), kk = 8 - q ∧ E = [(193, ii q)] ∧ m = [(0, some ⟨r1, arr .u32 8 s2, 64⟩)] ∧ (q ≤ 8) ∧ (∀ t, t < 8 → s2 t = if t < q then sqz h b many false t else h t)) ⟨0, h, rfl, rfl, rfl, by omega, fun t _ => by rw [if_neg (by omega)]⟩ ⟨rfl, rfl, rfl, rfl, rfl, rfl, rfl, rfl, rfl, rfl, trivial⟩ ⟨rfl, rfl, rfl, rfl, trivial⟩ ?_
      rintro kk E m ⟨q, s2, rfl, rfl, rfl, hf4_0, hf4_1⟩
      simp only [catE, catL]
      refine Qs<|Qp<|(Ql)<|Qn<|Qs ?_
      refine e_cond rfl ?_ ?_
      · intro hc5
        have hc5 : q < 8 := by have := of_decide_eq_true hc5; omega
        refine Qk<|Qs<|Qb<|Qs<|Qp<|(Qm)<|(Qa)<|Qn<|(Qg)<|(Qm)<|(Qi)<|(Q1 0)<|(Qm)<|(Q5 4)<|(Qm)<|(Q4 4)<|(QB (4 * (q / 4)))<|(QB (q))<|(Q1 3)<|(Qm)<|(Q5 4) ?_
        refine e_add_i (p := 2) rfl rfl rfl (by omega) ?_
        refine (Qm)<|(Q4 4)<|(QB (4 * (2 + q / 4)))<|(QB (8 + q))<|(Q1 3) ?_
        refine e_xor_w rfl rfl rfl  ?_
        refine e_xor_w rfl rfl rfl  ?_
        refine (Qi)<|(Qu 0)<|Qn<|Qp<|(Q2 1)<|(Qm)<|Qn ?_
        refine QzL ⟨q + 1, upd s2 q _, rfl, rfl, rfl, by omega, sqz_step (by omega) (congrArg (brs b (w0 h many false)) hz1) hf4_1⟩ ⟨rfl, rfl, rfl, rfl, rfl, rfl, rfl, rfl, rfl, rfl, trivial⟩ ⟨rfl, rfl, rfl, rfl, trivial⟩ ?_
        omega
      · intro hc5
        have hc5 := of_decide_eq_false hc5
        have hz4 : q = 8 := by omega
        subst hz4
        refine Qe<|Qs<|Qp<|(Qd 0)<|(Qt 2)<|Qn<|Qr ?_
        rw [← sqz_all hf4_1]
        exact ⟨_, rfl, .cell (i := 2) rfl rfl (Uu 64) rfl (Uz 64) (arr_size _ _ _)⟩
end Go.Proofs.YtbjaenjgahjikaaDoor
namespace Go.Proofs.YtbjaenjgahjikaaDoor
open Go Go.RowKit
variable {G : Mem}
set_option maxHeartbeats 2000000 in
theorem hbegun_fn : Fn Tryd.prog ((⟨0, arr .u32 8 ivf, 64⟩ : Blk) :: G) 39 #[] (.agg (cells 74 [pI .u32 8 hbeg, pI .u8 64 (fun _ => 0), pV (.int .i64 0), pV (.int .i64 0)])) := by
  refine Qf1 Tryd.func39 ?_
  refine Qs<|Qp<|(QH 0) fun r1=>Qn<|Qs<|Qp ?_
  refine e_loadAg (i := 0) (Uu 64) rfl (Uz 64) rfl rfl (arr_size _ _ _) rfl ?_
  refine e_buildS (cells 74 [pI .u32 8 ivf, pI .u8 64 (fun _ => 0), pV (.int .i64 0), pV (.int .i64 0)]) (Ub 67 rfl) (Uu 67 rfl) pls67 rfl (by kernel_rfl) rfl ?_
  refine (QH 1) fun r2=>?_
  refine e_storeA (i := 1) (Uz 67) rfl rfl (arrv_size _ _) (cells_one ⟨fun _ => rfl, fun _ => rfl, fun _ => rfl, fun _ => rfl, trivial⟩) rfl cells_sz (.inl rfl) ?_
  refine Qn<|Qs<|Qp<|(Qf 0)<|(Qj 0)<|(QI 0 0 1) ?_
  refine e_xor_w (q := 16842784) rfl rfl rfl  ?_
  refine (Qf 0)<|(Qj 0) ?_
  refine e_stI (i := 1) 0 (0) (Uz 63) rfl rfl rfl rfl rfl (by decide) (by decide) (.inl rfl) ?_
  refine Qn<|Qs<|Qp<|(QD 1) ?_
  refine e_as (show _ = Value.agg (cells 74 [pI .u32 8 hbeg, pI .u8 64 (fun _ => 0), pV (.int .i64 0), pV (.int .i64 0)]) from rfl) ?_
  refine e_storeA (i := 0) (Uz 67) rfl rfl (arrv_size _ _) (cells_one ⟨fun _ => rfl, fun _ => rfl, fun _ => rfl, fun _ => rfl, trivial⟩) rfl cells_sz (.inl rfl) ?_
  refine Qn<|Qr ?_
  exact ⟨_, rfl, .cell (i := 0) rfl rfl (Uu 67) rfl (Uz 67) (arrv_size _ _)⟩
set_option maxHeartbeats 4000000 in
theorem badHash_ok (h d : Nat → Nat) (n ln : Nat) (hn : n ≤ 64) (hl : ln ≤ 1073741824) : Fn Tryd.prog G 55 #[.agg (cells 74 [pI .u32 8 h, pI .u8 64 d, pV (.int .i64 n), pV (.int .i64 ln)])] (.bool (!okB n ln d)) := by
  refine Qf1 Tryd.func55 ?_
  refine Qs<|Qp<|(Qh 0) fun r1=>(Qa)<|Qn<|Qs<|Qs<|Qp<|(Qf 72)<|(QV 2 0)<|(Ql)<|(Qaf)<|(Qm)<|(Qy)<|(Qf 72)<|(Qy)<|(QV 2 0)<|(Qy)<|(QG)<|(Qaf)<|(QF)<|(Qm)<|(Qy)<|(Qf 73)<|(Qy)<|(QV 3 0)<|(Qy)<|(Ql)<|(Qaf)<|(QF)<|(Qm)<|(Qy)<|(Qf 73)<|(Qy)<|(QV 3 0)<|(Qy)<|(QG)<|(Qaf)<|(QF)<|Qn<|(Qcf)<|Qk<|Qs<|Qp<|(Qf 73)<|(QV 3 0)<|(Q4 64)<|(Qa)<|Qn<|Qs<|Qs ?_
  rcases (by omega : ln % 64 ≠ 0 ∨ (ln % 64 = 0 ∧ 0 < ln) ∨ (ln % 64 = 0 ∧ ¬ 0 < ln)) with hm | ⟨hm, hp⟩ | ⟨hm, hp⟩
  · skip
    refine Qp<|(Qm)<|(Qc)<|(Qaf)<|(Qm)<|(Qo)<|(Qo)<|(Qo)<|(QF)<|Qn<|(Qcf) ?_
    have hkx : nbl ln = ln % 64 := if_neg (by omega)
    refine Qk<|Qs<|Qs<|Qp<|(Qf 8)<|(Qv 1 0)<|(Qm)<|Qn<|Qb ?_
    refine QzK [(1, _), (3, _), (35, _)] [(0, _)] (fun kk E m => ∃ (i : Nat), kk = 64 - i ∧ E = [(36, ii i)] ∧ m = [] ∧ (i ≤ 64) ∧ (∀ t, t < i → n ≤ t → d t = 0)) ⟨0, rfl, rfl, rfl, by omega, fun t ht => absurd ht (Nat.not_lt_zero t)⟩ ⟨rfl, rfl, rfl, rfl, trivial⟩ ⟨rfl, trivial⟩ ?_
    rintro kk E m ⟨i, rfl, rfl, rfl, hf0_0, hf0_1⟩
    simp only [catE, catL]
    refine Qs<|Qp<|(Ql)<|Qn<|Qs ?_
    refine e_cond rfl ?_ ?_
    · intro hc2
      have hc2 : i < 64 := by have := of_decide_eq_true hc2; omega
      refine Qk<|Qs<|Qb<|Qs<|Qp<|(Qm)<|(QX)<|(Qa)<|(Qa)<|Qn<|Qs ?_
      rcases (by omega : ¬ n ≤ i ∨ (n ≤ i ∧ d i = 0) ∨ (n ≤ i ∧ d i ≠ 0)) with hz | ⟨hge, hz⟩ | ⟨hge, hne⟩
      · skip
        refine Qp<|(Qm)<|(Qf 72)<|(QV 2 0)<|(QE)<|(Qaf)<|(Qm)<|(Qo)<|(Qo)<|(QF)<|Qn<|(Qcf)<|Qk<|Qp<|(Q2 1)<|(Qm)<|Qn ?_
        refine QzL ⟨i + 1, rfl, rfl, rfl, by omega, fun t ht hnt => by rcases (by omega : t < i ∨ t = i) with h | rfl; exact hf0_1 t h hnt; first | exact hz | exact absurd hnt (by omega)⟩ ⟨rfl, rfl, rfl, rfl, trivial⟩ ⟨rfl, trivial⟩ ?_
        omega
      · skip
        refine Qp<|(Qm)<|(Qf 72)<|(QV 2 0)<|(QE)<|(Qat)<|(Qm)<|(Qy)<|(Qm)<|(Qy)<|(QN)<|(Qaf)<|(QT)<|Qn<|(Qcf)<|Qk<|Qp<|(Q2 1)<|(Qm)<|Qn ?_
        refine QzL ⟨i + 1, rfl, rfl, rfl, by omega, fun t ht hnt => by rcases (by omega : t < i ∨ t = i) with h | rfl; exact hf0_1 t h hnt; first | exact hz | exact absurd hnt (by omega)⟩ ⟨rfl, rfl, rfl, rfl, trivial⟩ ⟨rfl, trivial⟩ ?_
        omega
      · skip
        refine Qp<|(Qm)<|(Qf 72)<|(QV 2 0)<|(QE)<|(Qat)<|(Qm)<|(Qy)<|(Qm)<|(Qy)<|(QN)<|(Qat)<|(QT)<|Qn<|(Qct)<|Qs<|Qp<|(Qa)<|Qn<|Qr ?_
        first | rw [okB_bad (i := i) (by omega) hge hne] | rw [okB_fin hf0_1 hkx]
        exact ⟨_, rfl, .tmp rfl⟩
    · intro hc2
      have hc2 := of_decide_eq_false hc2
      have hz0 : i = 64 := by omega
      subst hz0
      refine Qe<|Qs<|Qp<|(Qf 72)<|(QV 2 0)<|(Qm)<|(QN)<|(Qa)<|Qn<|Qr ?_
      first | rw [okB_bad (i := i) (by omega) hge hne] | rw [okB_fin hf0_1 hkx]
      exact ⟨_, rfl, .tmp rfl⟩
  · skip
    refine Qp<|(Qm)<|(Qc)<|(Qat)<|(Qm)<|(Qy)<|(Qf 73)<|(Qy)<|(QV 3 0)<|(Qy)<|(QG)<|(Qat)<|(QT)<|Qn<|(Qct) ?_
    have hkx : nbl ln = 64 := if_pos ⟨hm, hp⟩
    refine Qp<|(Qa)<|Qn<|Qs<|Qs<|Qp<|(Qf 8)<|(Qv 1 0)<|(Qm)<|Qn<|Qb ?_
    refine QzK [(1, _), (3, _), (35, _)] [(0, _)] (fun kk E m => ∃ (i : Nat), kk = 64 - i ∧ E = [(36, ii i)] ∧ m = [] ∧ (i ≤ 64) ∧ (∀ t, t < i → n ≤ t → d t = 0)) ⟨0, rfl, rfl, rfl, by omega, fun t ht => absurd ht (Nat.not_lt_zero t)⟩ ⟨rfl, rfl, rfl, rfl, trivial⟩ ⟨rfl, trivial⟩ ?_
    rintro kk E m ⟨i, rfl, rfl, rfl, hf0_0, hf0_1⟩
    simp only [catE, catL]
    refine Qs<|Qp<|(Ql)<|Qn<|Qs ?_
    refine e_cond rfl ?_ ?_
    · intro hc2
      have hc2 : i < 64 := by have := of_decide_eq_true hc2; omega
      refine Qk<|Qs<|Qb<|Qs<|Qp<|(Qm)<|(QX)<|(Qa)<|(Qa)<|Qn<|Qs ?_
      rcases (by omega : ¬ n ≤ i ∨ (n ≤ i ∧ d i = 0) ∨ (n ≤ i ∧ d i ≠ 0)) with hz | ⟨hge, hz⟩ | ⟨hge, hne⟩
      · skip
        refine Qp<|(Qm)<|(Qf 72)<|(QV 2 0)<|(QE)<|(Qaf)<|(Qm)<|(Qo)<|(Qo)<|(QF)<|Qn<|(Qcf)<|Qk<|Qp<|(Q2 1)<|(Qm)<|Qn ?_
        refine QzL ⟨i + 1, rfl, rfl, rfl, by omega, fun t ht hnt => by rcases (by omega : t < i ∨ t = i) with h | rfl; exact hf0_1 t h hnt; first | exact hz | exact absurd hnt (by omega)⟩ ⟨rfl, rfl, rfl, rfl, trivial⟩ ⟨rfl, trivial⟩ ?_
        omega
      · skip
        refine Qp<|(Qm)<|(Qf 72)<|(QV 2 0)<|(QE)<|(Qat)<|(Qm)<|(Qy)<|(Qm)<|(Qy)<|(QN)<|(Qaf)<|(QT)<|Qn<|(Qcf)<|Qk<|Qp<|(Q2 1)<|(Qm)<|Qn ?_
        refine QzL ⟨i + 1, rfl, rfl, rfl, by omega, fun t ht hnt => by rcases (by omega : t < i ∨ t = i) with h | rfl; exact hf0_1 t h hnt; first | exact hz | exact absurd hnt (by omega)⟩ ⟨rfl, rfl, rfl, rfl, trivial⟩ ⟨rfl, trivial⟩ ?_
        omega
      · skip
        refine Qp<|(Qm)<|(Qf 72)<|(QV 2 0)<|(QE)<|(Qat)<|(Qm)<|(Qy)<|(Qm)<|(Qy)<|(QN)<|(Qat)<|(QT)<|Qn<|(Qct)<|Qs<|Qp<|(Qa)<|Qn<|Qr ?_
        first | rw [okB_bad (i := i) (by omega) hge hne] | rw [okB_fin hf0_1 hkx]
        exact ⟨_, rfl, .tmp rfl⟩
    · intro hc2
      have hc2 := of_decide_eq_false hc2
      have hz0 : i = 64 := by omega
      subst hz0
      refine Qe<|Qs<|Qp<|(Qf 72)<|(QV 2 0)<|(Qm)<|(QN)<|(Qa)<|Qn<|Qr ?_
      first | rw [okB_bad (i := i) (by omega) hge hne] | rw [okB_fin hf0_1 hkx]
      exact ⟨_, rfl, .tmp rfl⟩
  · skip
    refine Qp<|(Qm)<|(Qc)<|(Qat)<|(Qm)<|(Qy)<|(Qf 73)<|(Qy)<|(QV 3 0)<|(Qy)<|(QG)<|(Qaf)<|(QT)<|Qn<|(Qcf) ?_
    have hkx : nbl ln = ln % 64 := if_neg (by omega)
    refine Qk<|Qs<|Qs<|Qp<|(Qf 8)<|(Qv 1 0)<|(Qm)<|Qn<|Qb ?_
    refine QzK [(1, _), (3, _), (35, _)] [(0, _)] (fun kk E m => ∃ (i : Nat), kk = 64 - i ∧ E = [(36, ii i)] ∧ m = [] ∧ (i ≤ 64) ∧ (∀ t, t < i → n ≤ t → d t = 0)) ⟨0, rfl, rfl, rfl, by omega, fun t ht => absurd ht (Nat.not_lt_zero t)⟩ ⟨rfl, rfl, rfl, rfl, trivial⟩ ⟨rfl, trivial⟩ ?_
    rintro kk E m ⟨i, rfl, rfl, rfl, hf0_0, hf0_1⟩
    simp only [catE, catL]
    refine Qs<|Qp<|(Ql)<|Qn<|Qs ?_
    refine e_cond rfl ?_ ?_
    · intro hc2
      have hc2 : i < 64 := by have := of_decide_eq_true hc2; omega
      refine Qk<|Qs<|Qb<|Qs<|Qp<|(Qm)<|(QX)<|(Qa)<|(Qa)<|Qn<|Qs ?_
      rcases (by omega : ¬ n ≤ i ∨ (n ≤ i ∧ d i = 0) ∨ (n ≤ i ∧ d i ≠ 0)) with hz | ⟨hge, hz⟩ | ⟨hge, hne⟩
      · skip
        refine Qp<|(Qm)<|(Qf 72)<|(QV 2 0)<|(QE)<|(Qaf)<|(Qm)<|(Qo)<|(Qo)<|(QF)<|Qn<|(Qcf)<|Qk<|Qp<|(Q2 1)<|(Qm)<|Qn ?_
        refine QzL ⟨i + 1, rfl, rfl, rfl, by omega, fun t ht hnt => by rcases (by omega : t < i ∨ t = i) with h | rfl; exact hf0_1 t h hnt; first | exact hz | exact absurd hnt (by omega)⟩ ⟨rfl, rfl, rfl, rfl, trivial⟩ ⟨rfl, trivial⟩ ?_
        omega
      · skip
        refine Qp<|(Qm)<|(Qf 72)<|(QV 2 0)<|(QE)<|(Qat)<|(Qm)<|(Qy)<|(Qm)<|(Qy)<|(QN)<|(Qaf)<|(QT)<|Qn<|(Qcf)<|Qk<|Qp<|(Q2 1)<|(Qm)<|Qn ?_
        refine QzL ⟨i + 1, rfl, rfl, rfl, by omega, fun t ht hnt => by rcases (by omega : t < i ∨ t = i) with h | rfl; exact hf0_1 t h hnt; first | exact hz | exact absurd hnt (by omega)⟩ ⟨rfl, rfl, rfl, rfl, trivial⟩ ⟨rfl, trivial⟩ ?_
        omega
      · skip
        refine Qp<|(Qm)<|(Qf 72)<|(QV 2 0)<|(QE)<|(Qat)<|(Qm)<|(Qy)<|(Qm)<|(Qy)<|(QN)<|(Qat)<|(QT)<|Qn<|(Qct)<|Qs<|Qp<|(Qa)<|Qn<|Qr ?_
        first | rw [okB_bad (i := i) (by omega) hge hne] | rw [okB_fin hf0_1 hkx]
        exact ⟨_, rfl, .tmp rfl⟩
    · intro hc2
      have hc2 := of_decide_eq_false hc2
      have hz0 : i = 64 := by omega
      subst hz0
      refine Qe<|Qs<|Qp<|(Qf 72)<|(QV 2 0)<|(Qm)<|(QN)<|(Qa)<|Qn<|Qr ?_
      first | rw [okB_bad (i := i) (by omega) hge hne] | rw [okB_fin hf0_1 hkx]
      exact ⟨_, rfl, .tmp rfl⟩
end Go.Proofs.YtbjaenjgahjikaaDoor
namespace Go.Proofs.YtbjaenjgahjikaaDoor
open Go Go.RowKit
variable {G : Mem}
set_option maxHeartbeats 2000000 in
theorem hadded_size (h d : Nat → Nat) (n ln : Nat) (v : Value) (l : List Nat) (hv : Shows ((⟨0, arr .u32 8 ivf, 64⟩ : Blk) :: G) 1 v l.length (l.map by8)) (hn : n ≤ 64) (hl : ln ≤ 1073741824) (hok : okB n ln d = true) (hz : 1073741824 < ln + l.length) (hlm : l.length ≤ 4611686018427387904) : Fn Tryd.prog ((⟨0, arr .u32 8 ivf, 64⟩ : Blk) :: G) 38 #[.agg (cells 74 [pI .u32 8 h, pI .u8 64 d, pV (.int .i64 (n : Int)), pV (.int .i64 (ln : Int))]), v] (.tuple #[.agg (cells 74 [pI .u32 8 (fun _ => 0), pI .u8 64 (fun _ => 0), pV (.int .i64 0), pV (.int .i64 0)]), ii 1]) := by
  refine Qf2 Tryd.func38 ?_
  refine Qs<|Qp<|(Qh 0) fun r1=>(QH 1) fun r2=>(Qa)<|Qn<|Qs<|Qs<|Qp<|(QD 0) ?_
  refine e_call rfl (Un 55) (badHash_ok h d n ln hn hl) rfl rfl ?_
  refine e_as (congrArg Value.bool (show (!okB n ln d) = false by rw [hok]; rfl)) ?_
  refine Qn<|(Qcf)<|Qk<|Qs<|Qs<|Qp<|(Qf 73)<|(QV 3 0)<|(Qm)<|(QC hv)<|(Q3)<|(QG)<|(Qat)<|Qn<|(Qct)<|Qs<|Qp ?_
  refine e_buildS (cells 74 [pI .u32 8 (fun _ => 0), pI .u8 64 (fun _ => 0), pV (.int .i64 0), pV (.int .i64 0)]) (Ub 67 rfl) (Uu 67 rfl) pls67 rfl (by kernel_rfl) rfl ?_
  refine e_storeA (i := 1) (Uz 67) rfl rfl (arrv_size _ _) (cells_one ⟨fun _ => rfl, fun _ => rfl, fun _ => rfl, fun _ => rfl, trivial⟩) rfl cells_sz (.inl rfl) ?_
  refine (Qa)<|Qn<|Qr ?_
  exact ⟨_, _, rfl, .cell (i := 1) rfl rfl (Uu 67) rfl (Uz 67) (arrv_size _ _), .tmp rfl⟩
set_option maxHeartbeats 4000000 in
theorem hadded_ok (h d : Nat → Nat) (n ln : Nat) (v : Value) (l : List Nat) (hv : Shows ((⟨0, arr .u32 8 ivf, 64⟩ : Blk) :: G) 1 v l.length (l.map by8)) (hlb : ∀ b ∈ l, b < 256) (hd : L8 64 d) (hl : ln ≤ 1073741824) (hok : okB n ln d = true) (hz : ln + l.length ≤ 1073741824) : Fn Tryd.prog ((⟨0, arr .u32 8 ivf, 64⟩ : Blk) :: G) 38 #[.agg (cells 74 [pI .u32 8 h, pI .u8 64 d, pV (.int .i64 (n : Int)), pV (.int .i64 (ln : Int))]), v] (.tuple #[.agg (cells 74 [pI .u32 8 (hacc h (ln - n) (sS d n l) (nblk (sS d n l).length)), pI .u8 64 (fun i => ((sS d n l).drop (64 * nblk (sS d n l).length)).getD i 0), pV (.int .i64 (((sS d n l).drop (64 * nblk (sS d n l).length)).length : Nat)), pV (.int .i64 (ln + l.length : Nat))]), ii 0]) := by
  obtain ⟨_, hnl, hn, hmod, _⟩ := okB_open hok
  have hSl := sS_len d n l
  have hSb := sS_lt (n := n) (fun j hj => hd j (by omega)) hlb
  refine Qf2 Tryd.func38 ?_
  refine Qs<|Qp<|(Qh 0) fun r1=>(QH 1) fun r2=>(Qa)<|Qn<|Qs<|Qs<|Qp<|(QD 0) ?_
  refine e_call rfl (Un 55) (badHash_ok h d n ln hn hl) rfl rfl ?_
  refine e_as (congrArg Value.bool (show (!okB n ln d) = false by rw [hok]; rfl)) ?_
  refine Qn<|(Qcf)<|Qk<|Qs<|Qs<|Qp<|(Qf 73)<|(QV 3 0)<|(Qm)<|(QC hv)<|(Q3)<|(QG)<|(Qaf)<|Qn<|(Qcf)<|Qk<|Qs<|Qp<|(Qf 8)<|(Qv 1 0)<|(QH 2) fun r3=>(Qt 2)<|Qn<|Qs<|(Qg)<|(Qf 72)<|(QV 2 0) ?_
  refine e_sliceA 0 n (Uu 65) (Uz 5) rfl rfl rfl rfl ⟨_, rfl⟩ (by omega) (by omega) (by omega) rfl ?_
  refine e_conv_str (i := 2) (Uu 33) (Uu 5) (Uu 9) rfl rfl (by omega) rfl rfl ⟨[], trivial⟩ ?_
  refine e_as (conv_all d n) ?_
  refine (Qm) ?_
  refine e_conv_strV hv seenG (Uu 33) (Uu 5) (Uu 9) rfl rfl rfl ?_
  refine e_catS rfl rfl rfl (by simp; omega) ?_
  refine e_as (show _ = sv (sS d n l) from rfl) ?_
  refine (Qa)<|Qn<|Qs<|Qp<|(Qf 73)<|(QV 3 0)<|(Qf 72)<|(QV 2 0) ?_
  refine e_sub_in rfl rfl rfl (by omega) (by omega) ?_
  refine (Qa)<|Qn<|Qs<|Qb ?_
  refine QzK [(1, _), (2, _), (4, _), (5, _)] [(1, _), (2, _)] (fun kk E m => ∃ (k : Nat), kk = (sS d n l).length - 64 * k ∧ E = [(7, sv ((sS d n l).drop (64 * k))), (8, ii (ln - n + 64 * k))] ∧ m = [(0, some ⟨r1, cells 74 [pI .u32 8 (hacc h (ln - n) (sS d n l) k), pI .u8 64 d, pV (.int .i64 (n : Int)), pV (.int .i64 (ln : Int))], 67⟩)] ∧ (64 * k ≤ (sS d n l).length) ∧ (k = 0 ∨ 64 * k < (sS d n l).length)) ⟨0, rfl, rfl, rfl, by omega, .inl rfl⟩ ⟨rfl, rfl, rfl, rfl, rfl, rfl, trivial⟩ ⟨rfl, rfl, rfl, trivial⟩ ?_
  rintro kk E m ⟨k, rfl, rfl, rfl, hf0_0, hf0_1⟩
  simp only [catE, catL]
  have hdl : ((sS d n l).drop (64 * k)).length = (sS d n l).length - 64 * k := List.length_drop
  refine Qs<|Qs<|Qp<|(Qm)<|(QU)<|(QG)<|Qn ?_
  refine e_cond rfl ?_ ?_
  · intro hc2
    have hc2 : 64 < (sS d n l).length - 64 * k := by have := of_decide_eq_true hc2; omega
    refine Qk<|Qb<|Qs<|Qp<|(Qm)<|(Q2 64)<|(Qa)<|Qn<|Qs<|(Qg)<|(Qf 0)<|(Qv 0 0)<|(Qm) ?_
    refine e_sliceStr 0 64 (Uu 9) rfl rfl rfl rfl ⟨_, rfl⟩ (by omega) (by omega) rfl ?_
    refine (Qm) ?_
    refine e_call rfl (Un 56) (squeezed_false (hacc h (ln - n) (sS d n l) k) (((sS d n l).drop (64 * k)).take 64) (ln - n + 64 * k + 64) (take_lt hSb _ _) (by rw [List.length_take]; omega)) rfl rfl ?_
    refine (Qf 0) ?_
    refine e_stC (i := 0) 0 (Uz 64) rfl rfl rfl rfl (by decide) (.inl rfl) ?_
    refine Qn<|Qp<|(Qm) ?_
    refine e_sliceStr 64 ((sS d n l).drop (64 * k)).length (Uu 9) rfl rfl rfl ⟨_, rfl⟩ rfl (by omega) (by omega) rfl ?_
    refine e_as (congrArg sv (drop_next64 _ k)) ?_
    refine (Qa)<|Qn ?_
    refine QzL ⟨k + 1, rfl, rfl, rfl, by omega, .inr (by omega)⟩ ⟨rfl, rfl, rfl, rfl, rfl, rfl, trivial⟩ ⟨rfl, rfl, rfl, trivial⟩ ?_
    omega
  · intro hc2
    have hc2 : ¬ 64 < (sS d n l).length - 64 * k := by have := of_decide_eq_false hc2; omega
    refine Qe<|Qs<|Qp<|(Qf 0)<|(Qv 0 0)<|(Qm)<|(QU)<|(Qf 73)<|(QV 3 0)<|(Qm)<|(QC hv)<|(Q3) ?_
    refine e_buildS (cells 74 [pI .u32 8 (hacc h (ln - n) (sS d n l) k), pI .u8 64 (fun _ => 0), pV (.int .i64 (((sS d n l).drop (64 * k)).length : Nat)), pV (.int .i64 (ln + l.length : Nat))]) (Ub 67 rfl) (Uu 67 rfl) pls67 rfl (by kernel_rfl) rfl ?_
    refine (QH 3) fun r4=>?_
    refine e_storeA (i := 3) (Uz 67) rfl rfl (arrv_size _ _) (cells_one ⟨fun _ => rfl, fun _ => rfl, fun _ => rfl, fun _ => rfl, trivial⟩) rfl cells_sz (.inl rfl) ?_
    refine Qn<|Qs<|Qp<|(Qf 8) ?_
    refine e_sliceA 0 64 (Uu 65) (Uz 5) rfl rfl rfl rfl rfl (by omega) (by omega) (by omega) rfl ?_
    refine (Qm) ?_
    refine e_copyC (i := 3) 1 (Uu 33) (Uz 5) rfl rfl (fun b hb => hSb b (List.mem_of_mem_drop hb)) rfl rfl (Nat.le_of_ble_eq_true rfl) (by decide) rfl ?_
    refine Qn<|Qs<|Qp<|(QD 3) ?_
    refine e_as (Eq.trans (show _ = .agg (cells 74 [pI .u32 8 (hacc h (ln - n) (sS d n l) k), pI .u8 64 (fun i => if i < min ((sS d n l).drop (64 * k)).length 64 then ((sS d n l).drop (64 * k)).getD i 0 else 0), pV (.int .i64 (((sS d n l).drop (64 * k)).length : Nat)), pV (.int .i64 (ln + l.length : Nat))]) from rfl) (by rw [held_all64 _ (by omega), nblk_of (n := (sS d n l).length) (by omega) hf0_1])) ?_
    refine e_storeA (i := 1) (Uz 67) rfl rfl (arrv_size _ _) (cells_one ⟨fun _ => rfl, fun _ => rfl, fun _ => rfl, fun _ => rfl, trivial⟩) rfl cells_sz (.inl rfl) ?_
    refine (Qa)<|Qn<|Qr ?_
    exact ⟨_, _, rfl, .cell (i := 1) rfl rfl (Uu 67) rfl (Uz 67) (arrv_size _ _), .tmp rfl⟩
set_option maxHeartbeats 400000 in
theorem key_fn (l : List Nat) (hl : ∀ b ∈ l, b < 256) (hn : l.length = 32) : Fn Tryd.prog G 27 #[sv l] (.agg (arr .u8 32 (fun j => l.getD j 0))) := by
  refine Qf1 Tryd.func27 ?_
  refine Qs<|Qp<|(QH 0) fun r1=>Qn<|Qs<|Qp<|(QH 1) fun r2=>Qn<|Qs<|Qp ?_
  refine e_sliceA 0 32 (Uu 23) (Uz 5) rfl rfl rfl rfl rfl (by omega) (by omega) (by omega) rfl ?_
  refine (Qm) ?_
  refine e_copyStr (i := 1) (Uu 33) (Uz 5) rfl rfl hl rfl (by omega) rfl ?_
  refine Qn<|Qs<|Qp<|(Qd 1) ?_
  refine e_as (congrArg Value.agg (arr_congr (fun j hj => if_pos (by omega)))) ?_
  refine (Qt 0)<|Qn<|Qr ?_
  exact ⟨_, rfl, .cell (i := 0) rfl rfl (Uu 23) rfl (Uz 23) (arr_size _ _ _)⟩
set_option maxHeartbeats 4000000 in
theorem hended_ok (h d : Nat → Nat) (n ln : Nat) (hd : L8 64 d) (hl : ln ≤ 1073741824) (hok : okB n ln d = true) : Fn Tryd.prog ((⟨0, arr .u32 8 ivf, 64⟩ : Blk) :: G) 40 #[.agg (cells 74 [pI .u32 8 h, pI .u8 64 d, pV (.int .i64 (n : Int)), pV (.int .i64 (ln : Int))])] (.tuple #[.agg (arr .u8 32 (hsumf (sqz h ((List.range 64).map d) ln true))), ii 0]) := by
  obtain ⟨_, _, hn, _, _⟩ := okB_open hok
  obtain ⟨w, hw⟩ : ∃ w, w = (sqz h ((List.range 64).map d) ln true) := ⟨_, rfl⟩
  have hwl : ∀ t, w t < 4294967296 := fun t => by rw [hw]; exact sqz_lt _ _ _ _ _
  refine Qf2 Tryd.func40 ?_
  refine Qs<|Qp<|(Qh 0) fun r1=>(QH 1) fun r2=>(Qa)<|Qn<|Qs<|Qs<|Qp<|(QD 0) ?_
  refine e_call rfl (Un 55) (badHash_ok h d n ln hn hl) rfl rfl ?_
  refine e_as (congrArg Value.bool (show (!okB n ln d) = false by rw [hok]; rfl)) ?_
  refine Qn<|(Qcf)<|Qk<|Qs<|Qp<|(Qf 8)<|(Qv 1 0)<|(QH 2) fun r3=>(Qt 2)<|Qn<|Qs<|Qp ?_
  refine e_assign (v := sv []) rfl rfl ?_
  refine Qn<|Qs<|Qs<|(Qg)<|(Qf 0)<|(Qv 0 0) ?_
  refine e_sliceA 0 64 (Uu 65) (Uz 5) rfl rfl rfl rfl rfl (by omega) (by omega) (by omega) rfl ?_
  refine e_conv_str (i := 2) (Uu 33) (Uu 5) (Uu 9) rfl rfl (by omega) rfl rfl ⟨[], trivial⟩ ?_
  refine e_as (conv_all d 64) ?_
  refine (Qf 73)<|(QV 3 0) ?_
  refine e_call rfl (Un 56) (squeezed_true h ((List.range 64).map d) ln (range_lt hd) (by simp)) rfl rfl ?_
  refine e_as (congrArg (fun f => Value.agg (arr .u32 8 f)) hw.symm) ?_
  refine (Qm)<|Qn<|Qb ?_
  refine QzK [(2, _), (3, _), (19, _)] [(0, _), (1, _), (2, _)] (fun kk E m => ∃ (i : Nat), kk = 8 - i ∧ E = [(5, sv (hol w i)), (20, ii i)] ∧ m = [] ∧ (i ≤ 8)) ⟨0, rfl, rfl, rfl, by omega⟩ ⟨rfl, rfl, rfl, rfl, rfl, trivial⟩ ⟨rfl, rfl, rfl, trivial⟩ ?_
  rintro kk E m ⟨i, rfl, rfl, rfl, hf0_0⟩
  simp only [catE, catL]
  have hhl := hol_len w i
  have hwi := hwl i
  refine Qs<|Qp<|(Ql)<|Qn<|Qs ?_
  refine e_cond rfl ?_ ?_
  · intro hc1
    have hc1 : i < 8 := by have := of_decide_eq_true hc1; omega
    refine Qk<|Qs<|Qb<|Qs<|Qp<|(QX)<|(Qa)<|Qn<|Qp<|(Qm)<|(Qm) ?_
    refine e_conv_un (Uu 63) (Uu 24) rfl rfl rfl (by omega) ?_
    refine e_call rfl (Un 57) (low_fn (w i) 4 (by omega) (by decide)) rfl rfl ?_
    refine e_catS rfl rfl rfl (by rw [lowl_len]; omega) ?_
    refine (Qa)<|Qn<|Qp<|(Q2 1)<|(Qm)<|Qn ?_
    refine QzL ⟨i + 1, rfl, rfl, rfl, by omega⟩ ⟨rfl, rfl, rfl, rfl, rfl, trivial⟩ ⟨rfl, rfl, rfl, trivial⟩ ?_
    omega
  · intro hc1
    have hc1 := of_decide_eq_false hc1
    have hz0 : i = 8 := by omega
    refine Qe<|Qs<|Qp<|(Qm) ?_
    refine e_call rfl (Un 27) (key_fn (hol w i) (hol_lt w i) (by omega)) rfl rfl ?_
    refine e_as (show _ = Value.agg (arr .u8 32 (fun j => (hol w i).getD j 0)) from rfl) ?_
    refine (Qt 1)<|(Qa)<|Qn<|Qr ?_
    rw [show hsumf (sqz h ((List.range 64).map d) ln true) = fun j => (hol w i).getD j 0 by rw [hz0, ← hw]; rfl]
    exact ⟨_, _, rfl, .cell (i := 1) rfl rfl (Uu 23) rfl (Uz 23) (arr_size _ _ _), .tmp rfl⟩
end Go.Proofs.YtbjaenjgahjikaaDoor
namespace Go.Proofs.YtbjaenjgahjikaaDoor
open Go Go.RowKit
abbrev IVB : Blk := ⟨0, arr .u32 8 ivf, 64⟩
theorem stB_nil : .agg (cells 74 [pI .u32 8 hbeg, pI .u8 64 (fun _ => 0), pV (.int .i64 0), pV (.int .i64 0)]) = stB [] := by
  unfold stB cB
  rw [heldB_nil, hmsg_nil]; rfl
theorem hadded_msg {G : Mem} (m : List Nat) (v : Value) (l : List Nat) (hm : ∀ b ∈ m, b < 256) (hv : Shows (IVB :: G) 1 v l.length (l.map by8)) (hlb : ∀ b ∈ l, b < 256) (hz : m.length + l.length ≤ 1073741824) :
    Fn Tryd.prog (IVB :: G) 38 #[stB m, v] (.tuple #[stB (m ++ l), ii 0]) := by
  have h := hadded_ok (G := G) (hmsg m) (heldB m) (rem64 m).length m.length v l hv hlb (fun j _ => heldB_lt hm j) (by omega) (ok_heldB m) hz
  rw [sS_heldB, base_of, hmsg_app, rem64_app, ← List.length_append] at h
  exact h
theorem hended_msg {G : Mem} (m : List Nat) (hm : ∀ b ∈ m, b < 256) (hz : m.length ≤ 1073741824) : Fn Tryd.prog (IVB :: G) 40 #[stB m] (.tuple #[.agg (arr .u8 32 (bsum m)), ii 0]) := by
  have h := hended_ok (G := G) (hmsg m) (heldB m) (rem64 m).length m.length (fun j _ => heldB_lt hm j) hz (ok_heldB m)
  rw [← bsum_small hz] at h
  exact h
variable {G : Mem}
set_option maxHeartbeats 2000000 in
theorem hashOf_a (l : List Nat) (hb : ∀ b ∈ l, b < 256) (hz : l.length ≤ 1073741824) : Fn Tryd.prog (IVB :: G) 28 #[sv l] (.agg (arr .u8 32 (bsum l))) := by
  refine Qf1 Tryd.func28 ?_
  refine Qs<|Qp<|(QH 0) fun r1=>Qn<|Qs<|QR ⟨[], 1, [33], none⟩ ?_
  refine e_call rfl (Un 39) hbegun_fn rfl rfl ?_
  refine e_as stB_nil ?_
  refine (Qm) ?_
  refine e_conv_own 1 (Uu 9) (Uu 33) (Uu 5) rfl hb (by simp only [maxLen]; omega) rfl rfl fun v1_1 oz1_1 ho1_1 => ?_
  refine e_callS rfl rfl (Un 38) (seen_app seen_hd (seenM 1 rfl ⟨[], trivial⟩)) (hadded_msg (G := oz1_1.toList) [] _ l (by simp) ((own_bytes ho1_1).mono (fun x h => List.mem_cons_of_mem _ h)) hb (by simpa using hz)) rfl rfl ?_
  refine e_as (show _ = Value.tuple #[stB l, ii 0] from rfl) ?_
  refine (Qm)<|(Qx)<|(Qx)<|(QH 2) fun r3=>?_
  refine e_storeA (i := 2) (Uz 67) rfl rfl (arrv_size _ _) (cells_one ⟨fun _ => rfl, fun _ => rfl, fun _ => rfl, fun _ => rfl, trivial⟩) rfl cells_sz (.inl rfl) ?_
  refine (Qa)<|Qn<|Qs<|Qp<|(QD 2) ?_
  refine e_call rfl (Un 40) (hended_msg l hb hz) rfl rfl ?_
  refine (Qm)<|(Qx)<|(Qx)<|(QH 3) fun r4=>(Qt 3)<|(Qa)<|Qn<|Qs<|Qp<|(Qd 3)<|(Qt 0)<|Qn<|Qr ?_
  exact ⟨_, rfl, .cell (i := 0) rfl rfl (Uu 23) rfl (Uz 23) (arr_size _ _ _)⟩
set_option maxHeartbeats 2000000 in
theorem hashOf_b (l : List Nat) (hb : ∀ b ∈ l, b < 256) (hl : l.length ≤ 4611686018427387904) (hz : ¬ l.length ≤ 1073741824) : Fn Tryd.prog (IVB :: G) 28 #[sv l] (.agg (arr .u8 32 (bsum l))) := by
  refine Qf1 Tryd.func28 ?_
  refine Qs<|Qp<|(QH 0) fun r1=>Qn<|Qs<|QR ⟨[], 1, [33], none⟩ ?_
  refine e_call rfl (Un 39) hbegun_fn rfl rfl ?_
  refine e_as stB_nil ?_
  refine (Qm) ?_
  refine e_conv_own 1 (Uu 9) (Uu 33) (Uu 5) rfl hb (by simp only [maxLen]; omega) rfl rfl fun v1_1 oz1_1 ho1_1 => ?_
  refine e_callS rfl rfl (Un 38) (seen_app seen_hd (seenM 1 rfl ⟨[], trivial⟩)) (hadded_size (G := oz1_1.toList) (hmsg []) (heldB []) 0 0 _ l ((own_bytes ho1_1).mono (fun x h => List.mem_cons_of_mem _ h)) (by decide) (by decide) (ok_heldB []) (by omega) hl) rfl rfl ?_
  refine (Qm)<|(Qx)<|(Qx)<|(QH 2) fun r3=>?_
  refine e_storeA (i := 2) (Uz 67) rfl rfl (arrv_size _ _) (cells_one ⟨fun _ => rfl, fun _ => rfl, fun _ => rfl, fun _ => rfl, trivial⟩) rfl cells_sz (.inl rfl) ?_
  refine (Qa)<|Qn<|Qs<|Qp<|(QD 2) ?_
  refine e_call rfl (Un 40) (hended_ok (fun _ => 0) (fun _ => 0) 0 0 (fun _ _ => (show 0 < 256 by decide)) (by decide) okB_zero) rfl rfl ?_
  refine e_as (congrArg (fun f => Value.tuple #[.agg (arr .u8 32 f), ii 0]) (bsum_great hz).symm) ?_
  refine (Qm)<|(Qx)<|(Qx)<|(QH 3) fun r4=>(Qt 3)<|(Qa)<|Qn<|Qs<|Qp<|(Qd 3)<|(Qt 0)<|Qn<|Qr ?_
  exact ⟨_, rfl, .cell (i := 0) rfl rfl (Uu 23) rfl (Uz 23) (arr_size _ _ _)⟩
end Go.Proofs.YtbjaenjgahjikaaDoor
namespace Go.Proofs.YtbjaenjgahjikaaDoor
open Go Go.RowKit
theorem dadded6_msg {G : Mem} (m : List Nat) (v : Value) (l : List Nat) (hm : ∀ b ∈ m, b < 256) (hv : Shows (DOR :: G) 1 v l.length (l.map by8)) (hlb : ∀ b ∈ l, b < 256) (hz : m.length + l.length ≤ 1073741824) :
    Fn Tryd.prog (DOR :: G) 53 #[stB m, v] (stB (m ++ l)) := by
  have h := dadded_fn (G := G) (hmsg m) (heldB m) (rem64 m).length m.length v l hv hlb (fun j _ => heldB_lt hm j) (ok_heldB m) hz
  rw [sS_heldB, base_of, hmsg_app, rem64_app, ← List.length_append] at h
  exact h
theorem dended6_msg {G : Mem} (m : List Nat) (hm : ∀ b ∈ m, b < 256) (hz : m.length ≤ 1073741824) : Fn Tryd.prog (DOR :: G) 52 #[stB m] (.agg (arr .u8 32 (bsum m))) := by
  have h := dended6_fn (G := G) (hmsg m) (heldB m) (rem64 m).length m.length (fun j _ => heldB_lt hm j) (by omega)
  rw [← bsum_small hz] at h
  exact h
theorem dBegin_msg {G : Mem} : Fn Tryd.prog G 54 #[] (stB []) := by
  rw [← stB_nil]; exact dbegin6_fn
variable {G : Mem}
set_option maxHeartbeats 400000 in
theorem dsum6_fn (v : Value) (l : List Nat) (hv : Shows (DOR :: G) 1 v l.length (l.map by8)) (hlb : ∀ b ∈ l, b < 256) (hz : l.length ≤ 1073741824) : Fn Tryd.prog (DOR :: G) 37 #[v] (.agg (arr .u8 32 (bsum l))) := by
  refine Qf1 Tryd.func37 ?_
  refine Qs<|Qp<|(QH 0) fun r1=>Qn<|Qs<|Qp ?_
  refine e_call rfl (Un 54) dBegin_msg rfl rfl ?_
  refine (Qm) ?_
  refine e_call rfl (Un 53) (dadded6_msg [] v l (by simp) hv hlb (by simpa using hz)) rfl rfl ?_
  refine e_as (show _ = stB l from rfl) ?_
  refine e_call rfl (Un 52) (dended6_msg l hlb hz) rfl rfl ?_
  refine (Qt 0)<|Qn<|Qr ?_
  exact ⟨_, rfl, .cell (i := 0) rfl rfl (Uu 23) rfl (Uz 23) (arr_size _ _ _)⟩
end Go.Proofs.YtbjaenjgahjikaaDoor
