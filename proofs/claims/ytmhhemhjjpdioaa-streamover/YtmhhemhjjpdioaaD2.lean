/-
  Walks, written by a program of ours off the loaded functions.
-/
import Derived.Test.YtmhhemhjjpdioaaD1
namespace Go.Proofs.Ytmhhemhjjpdioaa
open Go Go.RowKit


theorem ent16 : enters Try.prog 16 = true := by kernel_rfl
theorem ent17 : enters Try.prog 17 = true := by kernel_rfl

variable {G : Mem}

set_option maxHeartbeats 2000000 in
theorem start_fn (k : Nat → Nat) (c : Nat) (nn : Nat → Nat) (hk : ∀ j, j < 32 → k j < 256) (hn : ∀ j, j < 12 → nn j < 256) (hc : c < 4294967296) : Fn Try.prog G 16 #[.agg (arr .u8 32 k), uw c, .agg (arr .u8 12 nn)] (.agg (arr .u32 16 (wrd (allb k c nn)))) := by
  refine fn1 (n := 53) Try.func16 rfl rfl (by simp) (argE [.agg (arr .u8 32 k), uw c, .agg (arr .u8 12 nn)] 0) (argE_ok _) ?_
  refine e_seq ?_
  refine e_plain ?_
  refine e_box 0 rfl rfl fun r1 => ?_
  refine e_box 1 rfl rfl fun r2 => ?_
  refine e_alloc 2 zer44 rfl fun r3 => ?_
  refine e_nil ?_
  refine e_seq ?_
  refine e_plain ?_
  refine e_move rfl rfl ?_
  refine e_build (arr .u32 16 (fun t => if t = 0 then 1634760805 else if t = 1 then 857760878 else if t = 2 then 2036477234 else if t = 3 then 1797285236 else if t = 12 then c else 0)) zer44 und44 siz23 rfl (by kernel_rfl) rfl ?_
  refine e_alloc 3 zer44 rfl fun r4 => ?_
  refine e_storeA (i := 3) siz44 rfl rfl (arr_size _ _ _) arr_one rfl (arr_sz _ _ _ _ _) (.inl rfl) ?_
  refine e_nil ?_
  refine e_seq ?_
  refine e_seq ?_
  refine e_plain ?_
  refine e_loadA (i := 0) und41 rfl siz41 rfl rfl (arr_size _ _ _) rfl ⟨[], trivial⟩ ?_
  refine e_move rfl rfl ?_
  refine e_nil ?_
  refine e_block ?_
  refine e_loop (fun kk E m => ∃ (i : Nat) (s : Nat → Nat), kk = 32 - i ∧ E = [(3, ptr r1), (5, ptr r2), (6, ptr r3), (7, ptr r4), (14, .agg (arr .u8 32 k)), (15, ii i)] ∧ m = [(0, some ⟨r1, arr .u8 32 k, 41⟩), (1, some ⟨r2, arr .u8 12 nn, 24⟩), (2, some ⟨r3, arr .u32 16 (fun _ => 0), 44⟩), (3, some ⟨r4, arr .u32 16 s, 44⟩)] ∧ (i ≤ 32) ∧ (∀ t, t < 16 → s t = stw k c nn i 0 t)) [(3, ptr r1), (5, ptr r2), (6, ptr r3), (7, ptr r4), (14, .agg (arr .u8 32 k)), (15, ii 0)] [(0, some ⟨r1, arr .u8 32 k, 41⟩), (1, some ⟨r2, arr .u8 12 nn, 24⟩), (2, some ⟨r3, arr .u32 16 (fun _ => 0), 44⟩), (3, some ⟨r4, arr .u32 16 ((fun t => if t = 0 then 1634760805 else if t = 1 then 857760878 else if t = 2 then 2036477234 else if t = 3 then 1797285236 else if t = 12 then c else 0)), 44⟩)] (32 - 0) ⟨rfl, rfl, rfl, rfl, rfl, rfl, trivial⟩ ⟨rfl, rfl, rfl, rfl, trivial⟩ ⟨0, (fun t => if t = 0 then 1634760805 else if t = 1 then 857760878 else if t = 2 then 2036477234 else if t = 3 then 1797285236 else if t = 12 then c else 0), rfl, rfl, rfl, by omega, stw_first k c nn⟩ ?_
  rintro kk E m ⟨i, s, rfl, rfl, rfl, hf0_0, hf0_1⟩
  refine e_seq ?_
  refine e_plain ?_
  refine e_lt rfl rfl rfl ?_
  refine e_nil ?_
  refine e_seq ?_
  refine e_cond rfl ?_ ?_
  · intro hc0
    have hc0 := of_decide_eq_true hc0
    refine e_skip ?_
    refine e_seq ?_
    refine e_block ?_
    refine e_seq ?_
    refine e_plain ?_
    refine e_move rfl rfl ?_
    refine e_idx und41 und5 siz5 rfl rfl (by omega) rfl ?_
    refine e_assign rfl rfl ?_
    refine e_assign rfl rfl ?_
    refine e_nil ?_
    refine e_draw mixed (by kernel_rfl) ?_
    refine e_move rfl rfl ?_
    refine e_quo_i (q := 4) rfl rfl rfl (by omega) (by omega) ?_
    refine e_add_i (p := 4) rfl rfl rfl (by omega) ?_
    refine e_index0 und44 siz23 rfl rfl (by omega) rfl ?_
    refine e_load1 (i := 3) und23 rfl rfl rfl (arr_get (by omega)) rfl ⟨[], trivial⟩ ?_
    refine e_move rfl rfl ?_
    refine e_conv_w und5 und23 rfl rfl ?_
    refine e_as (congrArg uw (Nat.mod_eq_of_lt (Nat.lt_trans (hk i (by omega)) (by decide)))) ?_
    refine e_move rfl rfl ?_
    refine e_rem_i (q := 4) rfl rfl rfl (by omega) ?_
    refine e_mul_i (q := 8) rfl rfl rfl (by omega) ?_
    refine e_shl_w rfl rfl rfl (by omega) ?_
    refine e_or_w rfl rfl rfl  ?_
    refine e_index0 und44 siz23 rfl rfl (by omega) rfl ?_
    refine e_storeN (i := 3) siz23 rfl rfl rfl (by omega) (.inl rfl) ?_
    refine e_nil ?_
    refine e_plain ?_
    refine e_add_i (q := 1) rfl rfl rfl (by omega) ?_
    refine e_move rfl rfl ?_
    refine e_nil ?_
    refine ⟨_, [(3, ptr r1), (5, ptr r2), (6, ptr r3), (7, ptr r4), (14, .agg (arr .u8 32 k)), (15, ii (i + 1))], [(0, some ⟨r1, arr .u8 32 k, 41⟩), (1, some ⟨r2, arr .u8 12 nn, 24⟩), (2, some ⟨r3, arr .u32 16 (fun _ => 0), 44⟩), (3, some ⟨r4, arr .u32 16 (upd s (4 + i / 4) _), 44⟩)], ?_, ⟨rfl, rfl, rfl, rfl, rfl, rfl, trivial⟩, ⟨rfl, rfl, rfl, rfl, trivial⟩, i + 1, upd s (4 + i / 4) _, rfl, rfl, rfl, by omega, stw_key hk (by omega) hf0_1⟩
    omega
  · intro hc0
    have hc0 := of_decide_eq_false hc0
    have hz0 : i = 32 := by omega
    subst hz0
    refine e_exit ?_
    refine e_seq ?_
    refine e_seq ?_
    refine e_plain ?_
    refine e_loadA (i := 1) und24 rfl siz24 rfl rfl (arr_size _ _ _) rfl ⟨[], trivial⟩ ?_
    refine e_move rfl rfl ?_
    refine e_nil ?_
    refine e_block ?_
    refine e_loop (fun kk E m => ∃ (q : Nat) (s2 : Nat → Nat), kk = 12 - q ∧ E = [(3, ptr r1), (5, ptr r2), (6, ptr r3), (7, ptr r4), (33, .agg (arr .u8 12 nn)), (34, ii q)] ∧ m = [(0, some ⟨r1, arr .u8 32 k, 41⟩), (1, some ⟨r2, arr .u8 12 nn, 24⟩), (2, some ⟨r3, arr .u32 16 (fun _ => 0), 44⟩), (3, some ⟨r4, arr .u32 16 s2, 44⟩)] ∧ (q ≤ 12) ∧ (∀ t, t < 16 → s2 t = stw k c nn 32 q t)) [(3, ptr r1), (5, ptr r2), (6, ptr r3), (7, ptr r4), (33, .agg (arr .u8 12 nn)), (34, ii 0)] [(0, some ⟨r1, arr .u8 32 k, 41⟩), (1, some ⟨r2, arr .u8 12 nn, 24⟩), (2, some ⟨r3, arr .u32 16 (fun _ => 0), 44⟩), (3, some ⟨r4, arr .u32 16 s, 44⟩)] (12 - 0) ⟨rfl, rfl, rfl, rfl, rfl, rfl, trivial⟩ ⟨rfl, rfl, rfl, rfl, trivial⟩ ⟨0, s, rfl, rfl, rfl, by omega, hf0_1⟩ ?_
    rintro kk E m ⟨q, s2, rfl, rfl, rfl, hf1_0, hf1_1⟩
    refine e_seq ?_
    refine e_plain ?_
    refine e_lt rfl rfl rfl ?_
    refine e_nil ?_
    refine e_seq ?_
    refine e_cond rfl ?_ ?_
    · intro hc1
      have hc1 := of_decide_eq_true hc1
      refine e_skip ?_
      refine e_seq ?_
      refine e_block ?_
      refine e_seq ?_
      refine e_plain ?_
      refine e_move rfl rfl ?_
      refine e_idx und24 und5 siz5 rfl rfl (by omega) rfl ?_
      refine e_assign rfl rfl ?_
      refine e_assign rfl rfl ?_
      refine e_nil ?_
      refine e_draw mixed (by kernel_rfl) ?_
      refine e_move rfl rfl ?_
      refine e_quo_i (q := 4) rfl rfl rfl (by omega) (by omega) ?_
      refine e_add_i (p := 13) rfl rfl rfl (by omega) ?_
      refine e_index0 und44 siz23 rfl rfl (by omega) rfl ?_
      refine e_load1 (i := 3) und23 rfl rfl rfl (arr_get (by omega)) rfl ⟨[], trivial⟩ ?_
      refine e_move rfl rfl ?_
      refine e_conv_w und5 und23 rfl rfl ?_
      refine e_as (congrArg uw (Nat.mod_eq_of_lt (Nat.lt_trans (hn q (by omega)) (by decide)))) ?_
      refine e_move rfl rfl ?_
      refine e_rem_i (q := 4) rfl rfl rfl (by omega) ?_
      refine e_mul_i (q := 8) rfl rfl rfl (by omega) ?_
      refine e_shl_w rfl rfl rfl (by omega) ?_
      refine e_or_w rfl rfl rfl  ?_
      refine e_index0 und44 siz23 rfl rfl (by omega) rfl ?_
      refine e_storeN (i := 3) siz23 rfl rfl rfl (by omega) (.inl rfl) ?_
      refine e_nil ?_
      refine e_plain ?_
      refine e_add_i (q := 1) rfl rfl rfl (by omega) ?_
      refine e_move rfl rfl ?_
      refine e_nil ?_
      refine ⟨_, [(3, ptr r1), (5, ptr r2), (6, ptr r3), (7, ptr r4), (33, .agg (arr .u8 12 nn)), (34, ii (q + 1))], [(0, some ⟨r1, arr .u8 32 k, 41⟩), (1, some ⟨r2, arr .u8 12 nn, 24⟩), (2, some ⟨r3, arr .u32 16 (fun _ => 0), 44⟩), (3, some ⟨r4, arr .u32 16 (upd s2 (13 + q / 4) _), 44⟩)], ?_, ⟨rfl, rfl, rfl, rfl, rfl, rfl, trivial⟩, ⟨rfl, rfl, rfl, rfl, trivial⟩, q + 1, upd s2 (13 + q / 4) _, rfl, rfl, rfl, by omega, stw_nonce hn (by omega) hf1_1⟩
      omega
    · intro hc1
      have hc1 := of_decide_eq_false hc1
      have hz1 : q = 12 := by omega
      subst hz1
      refine e_exit ?_
      refine e_seq ?_
      refine e_plain ?_
      refine e_loadA (i := 3) und44 rfl siz44 rfl rfl (arr_size _ _ _) rfl ⟨[], trivial⟩ ?_
      refine e_storeA (i := 2) siz44 rfl rfl (arr_size _ _ _) arr_one rfl (arr_sz _ _ _ _ _) (.inl rfl) ?_
      refine e_nil ?_
      refine e_ret ?_
      rw [← arr_congr (k := .u32) (n := 16) (stw_end k nn hc), ← arr_congr (k := .u32) (n := 16) hf1_1]
      exact ⟨_, rfl, .cell (i := 2) rfl rfl und44 rfl siz44 (arr_size _ _ _)⟩

set_option maxHeartbeats 2000000 in
theorem block_fn (k : Nat → Nat) (c : Nat) (nn : Nat → Nat) (hk : ∀ j, j < 32 → k j < 256) (hn : ∀ j, j < 12 → nn j < 256) (hc : c < 4294967296) : Fn Try.prog G 8 #[.agg (arr .u8 32 k), uw c, .agg (arr .u8 12 nn)] (.agg (arr .u8 64 (blkf k c nn))) := by
  obtain ⟨w, hw⟩ : ∃ w, w = wrd (allb k c nn) := ⟨_, rfl⟩
  obtain ⟨v, hv⟩ : ∃ v, v = dbls (wrd (allb k c nn)) 10 := ⟨_, rfl⟩
  refine fn1 (n := 38) Try.func8 rfl rfl (by simp) (argE [.agg (arr .u8 32 k), uw c, .agg (arr .u8 12 nn)] 0) (argE_ok _) ?_
  refine e_seq ?_
  refine e_plain ?_
  refine e_box 0 rfl rfl fun r1 => ?_
  refine e_box 1 rfl rfl fun r2 => ?_
  refine e_alloc 2 zer25 rfl fun r3 => ?_
  refine e_nil ?_
  refine e_seq ?_
  refine e_plain ?_
  refine e_loadA (i := 0) und41 rfl siz41 rfl rfl (arr_size _ _ _) rfl ⟨[], trivial⟩ ?_
  refine e_move rfl rfl ?_
  refine e_loadA (i := 1) und24 rfl siz24 rfl rfl (arr_size _ _ _) rfl ⟨[], trivial⟩ ?_
  refine e_call rfl ent16 (start_fn k c nn hk hn hc) rfl rfl ?_
  refine e_as (congrArg (fun f => Value.agg (arr .u32 16 f)) hw.symm) ?_
  refine e_alloc 3 zer44 rfl fun r4 => ?_
  refine e_storeA (i := 3) siz44 rfl rfl (arr_size _ _ _) arr_one rfl (arr_sz _ _ _ _ _) (.inl rfl) ?_
  refine e_nil ?_
  refine e_seq ?_
  refine e_plain ?_
  refine e_loadA (i := 3) und44 rfl siz44 rfl rfl (arr_size _ _ _) rfl ⟨[], trivial⟩ ?_
  refine e_call rfl ent17 (rounds_fn w) rfl rfl ?_
  refine e_as (congrArg (fun f => Value.agg (arr .u32 16 f)) (show dbls w 10 = v by rw [hv, hw])) ?_
  refine e_alloc 4 zer44 rfl fun r5 => ?_
  refine e_storeA (i := 4) siz44 rfl rfl (arr_size _ _ _) arr_one rfl (arr_sz _ _ _ _ _) (.inl rfl) ?_
  refine e_nil ?_
  refine e_seq ?_
  refine e_plain ?_
  refine e_alloc 5 zer25 rfl fun r6 => ?_
  refine e_nil ?_
  refine e_seq ?_
  refine e_seq ?_
  refine e_plain ?_
  refine e_move rfl rfl ?_
  refine e_nil ?_
  refine e_block ?_
  refine e_loop (fun kk E m => ∃ (i : Nat) (s : Nat → Nat), kk = 64 - i ∧ E = [(6, ptr r3), (7, ptr r4), (8, ptr r5), (9, ptr r6), (17, ii i)] ∧ m = [(0, some ⟨r1, arr .u8 32 k, 41⟩), (1, some ⟨r2, arr .u8 12 nn, 24⟩), (2, some ⟨r3, arr .u8 64 (fun _ => 0), 25⟩), (3, some ⟨r4, arr .u32 16 w, 44⟩), (4, some ⟨r5, arr .u32 16 v, 44⟩), (5, some ⟨r6, arr .u8 64 s, 25⟩)] ∧ (i ≤ 64) ∧ (∀ t, t < i → s t = blkf k c nn t)) [(6, ptr r3), (7, ptr r4), (8, ptr r5), (9, ptr r6), (17, ii 0)] [(0, some ⟨r1, arr .u8 32 k, 41⟩), (1, some ⟨r2, arr .u8 12 nn, 24⟩), (2, some ⟨r3, arr .u8 64 (fun _ => 0), 25⟩), (3, some ⟨r4, arr .u32 16 w, 44⟩), (4, some ⟨r5, arr .u32 16 v, 44⟩), (5, some ⟨r6, arr .u8 64 (fun _ => 0), 25⟩)] (64 - 0) ⟨rfl, rfl, rfl, rfl, rfl, trivial⟩ ⟨rfl, rfl, rfl, rfl, rfl, rfl, trivial⟩ ⟨0, fun _ => 0, rfl, rfl, rfl, by omega, fun t ht => absurd ht (Nat.not_lt_zero t)⟩ ?_
  rintro kk E m ⟨i, s, rfl, rfl, rfl, hf0_0, hf0_1⟩
  refine e_seq ?_
  refine e_plain ?_
  refine e_lt rfl rfl rfl ?_
  refine e_nil ?_
  refine e_seq ?_
  refine e_cond rfl ?_ ?_
  · intro hc0
    have hc0 := of_decide_eq_true hc0
    refine e_skip ?_
    refine e_seq ?_
    refine e_block ?_
    refine e_seq ?_
    refine e_plain ?_
    refine e_move rfl rfl ?_
    refine e_assign rfl rfl ?_
    refine e_nil ?_
    refine e_draw mixed (by kernel_rfl) ?_
    refine e_move rfl rfl ?_
    refine e_move rfl rfl ?_
    refine e_quo_i (q := 4) rfl rfl rfl (by omega) (by omega) ?_
    refine e_index0 und44 siz23 rfl rfl (by omega) rfl ?_
    refine e_load1 (i := 4) und23 rfl rfl rfl (arr_get (by omega)) rfl ⟨[], trivial⟩ ?_
    refine e_move rfl rfl ?_
    refine e_quo_i (q := 4) rfl rfl rfl (by omega) (by omega) ?_
    refine e_index0 und44 siz23 rfl rfl (by omega) rfl ?_
    refine e_load1 (i := 3) und23 rfl rfl rfl (arr_get (by omega)) rfl ⟨[], trivial⟩ ?_
    refine e_add_w rfl rfl rfl  ?_
    refine e_move rfl rfl ?_
    refine e_rem_i (q := 4) rfl rfl rfl (by omega) ?_
    refine e_mul_i (q := 8) rfl rfl rfl (by omega) ?_
    refine e_shr_w rfl rfl rfl (by omega) ?_
    refine e_conv_u8 und23 und5 rfl rfl ?_
    refine e_index0 und25 siz5 rfl rfl (by omega) rfl ?_
    refine e_storeN (i := 5) siz5 rfl rfl rfl (by omega) (.inl rfl) ?_
    refine e_nil ?_
    refine e_plain ?_
    refine e_add_i (q := 1) rfl rfl rfl (by omega) ?_
    refine e_move rfl rfl ?_
    refine e_nil ?_
    refine ⟨_, [(6, ptr r3), (7, ptr r4), (8, ptr r5), (9, ptr r6), (17, ii (i + 1))], [(0, some ⟨r1, arr .u8 32 k, 41⟩), (1, some ⟨r2, arr .u8 12 nn, 24⟩), (2, some ⟨r3, arr .u8 64 (fun _ => 0), 25⟩), (3, some ⟨r4, arr .u32 16 w, 44⟩), (4, some ⟨r5, arr .u32 16 v, 44⟩), (5, some ⟨r6, arr .u8 64 (upd s i _), 25⟩)], ?_, ⟨rfl, rfl, rfl, rfl, rfl, trivial⟩, ⟨rfl, rfl, rfl, rfl, rfl, rfl, trivial⟩, i + 1, upd s i _, rfl, rfl, rfl, by omega, upd_lt hf0_1 (blk_at k c nn hv hw (by omega))⟩
    omega
  · intro hc0
    have hc0 := of_decide_eq_false hc0
    have hz0 : i = 64 := by omega
    subst hz0
    refine e_exit ?_
    refine e_seq ?_
    refine e_plain ?_
    refine e_loadA (i := 5) und25 rfl siz25 rfl rfl (arr_size _ _ _) rfl ⟨[], trivial⟩ ?_
    refine e_storeA (i := 2) siz25 rfl rfl (arr_size _ _ _) arr_one rfl (arr_sz _ _ _ _ _) (.inl rfl) ?_
    refine e_nil ?_
    refine e_ret ?_
    rw [← arr_congr (k := .u8) (n := 64) hf0_1]
    exact ⟨_, rfl, .cell (i := 2) rfl rfl und25 rfl siz25 (arr_size _ _ _)⟩

end Go.Proofs.Ytmhhemhjjpdioaa
