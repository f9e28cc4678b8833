/-
  Walks, written by a program of ours off the loaded functions.
-/
import Derived.Test.YthhcgeoldjmpaaaDoorR2
import Derived.Test.YthhcgeoldjmpaaaDoorNum5
namespace Go.Proofs.YthhcgeoldjmpaaaDoor
open Go Go.RowKit


theorem und64 : Tryd.prog.underlying 64 = some (.array 32 29) := by kernel_rfl
theorem zer64 : (Tryd.prog.info? 64).bind (·.zero) = some (.agg (arr .u64 32 fun _ => 0)) := by kernel_rfl

variable {G : Mem}

set_option maxHeartbeats 1000000 in
theorem prod16_fn (x y : Nat) (hx : x < 2 ^ 256) (hy : y < 2 ^ 256) : Fn Tryd.prog [⟨0, arr .u64 16 (d16 PP), 41⟩] 20 #[dg x, dg y] (dg (x * y % PP)) := by
  refine fn1 (n := 51) Tryd.func20 rfl rfl (by simp) (argE [dg x, dg y] 0) (argE_ok _) ?_
  refine e_seq ?_
  refine e_plain ?_
  refine e_box 0 rfl rfl fun r1 => ?_
  refine e_box 1 rfl rfl fun r2 => ?_
  refine e_alloc 2 zer41 rfl fun r3 => ?_
  refine e_nil ?_
  refine e_seq ?_
  refine e_plain ?_
  refine e_alloc 3 zer64 rfl fun r4 => ?_
  refine e_nil ?_
  refine e_seq ?_
  refine e_seq ?_
  refine e_plain ?_
  refine e_loadA (i := 0) und41 rfl siz41 rfl rfl (arr_size _ _ _) rfl ⟨[], trivial⟩ ?_
  refine e_move rfl rfl ?_
  refine e_nil ?_
  refine e_block ?_
  refine e_loop (fun kk E m => ∃ (k : Nat) (o : Nat → Nat), kk = 16 - k ∧ E = [(3, ptr r2), (4, ptr r3), (5, ptr r4), (12, .agg (arr .u64 16 (d16 x))), (13, ii k)] ∧ m = [(0, ⟨r1, arr .u64 16 (d16 x), 41⟩), (1, ⟨r2, arr .u64 16 (d16 y), 41⟩), (2, ⟨r3, arr .u64 16 (fun _ => 0), 41⟩), (3, ⟨r4, arr .u64 32 o, 64⟩)] ∧ (k ≤ 16) ∧ (vs o 32 = x % 2 ^ (16 * k) * y) ∧ (∀ t, o t ≤ k * 4294836225)) [(3, ptr r2), (4, ptr r3), (5, ptr r4), (12, .agg (arr .u64 16 (d16 x))), (13, ii 0)] [(0, ⟨r1, arr .u64 16 (d16 x), 41⟩), (1, ⟨r2, arr .u64 16 (d16 y), 41⟩), (2, ⟨r3, arr .u64 16 (fun _ => 0), 41⟩), (3, ⟨r4, arr .u64 32 (fun _ => 0), 64⟩)] (16 - 0) ⟨rfl, rfl, rfl, rfl, rfl, trivial⟩ ⟨rfl, rfl, rfl, rfl, trivial⟩ ⟨0, fun _ => 0, rfl, rfl, rfl, by omega, prod_start x y, fun t => Nat.zero_le _⟩ ?_
  rintro kk E m ⟨k, o, rfl, rfl, rfl, hf0_0, hf0_1, hf0_2⟩
  refine e_seq ?_
  refine e_plain ?_
  refine e_lt rfl rfl rfl ?_
  refine e_nil ?_
  refine e_seq ?_
  refine e_cond rfl ?_ ?_
  · intro hc0
    have hc0 := of_decide_eq_true hc0
    refine e_skip ?_
    refine e_seq ?_
    refine e_block ?_
    refine e_seq ?_
    refine e_plain ?_
    refine e_move rfl rfl ?_
    refine e_idx und41 und29 siz29 rfl rfl (by omega) rfl ?_
    refine e_assign rfl rfl ?_
    refine e_assign rfl rfl ?_
    refine e_nil ?_
    refine e_seq ?_
    refine e_plain ?_
    refine e_loadA (i := 1) und41 rfl siz41 rfl rfl (arr_size _ _ _) rfl ⟨[], trivial⟩ ?_
    refine e_move rfl rfl ?_
    refine e_nil ?_
    refine e_block ?_
    refine e_loop (fun kk E m => ∃ (j : Nat) (o2 : Nat → Nat), kk = 16 - j ∧ E = [(3, ptr r2), (4, ptr r3), (5, ptr r4), (12, .agg (arr .u64 16 (d16 x))), (13, ii k), (6, ii k), (7, u (d16 x k)), (17, .agg (arr .u64 16 (d16 y))), (18, ii j)] ∧ m = [(0, ⟨r1, arr .u64 16 (d16 x), 41⟩), (1, ⟨r2, arr .u64 16 (d16 y), 41⟩), (2, ⟨r3, arr .u64 16 (fun _ => 0), 41⟩), (3, ⟨r4, arr .u64 32 o2, 64⟩)] ∧ (j ≤ 16) ∧ (vs o2 32 = x % 2 ^ (16 * k) * y + d16 x k * (y % 2 ^ (16 * j)) * 2 ^ (16 * k)) ∧ (∀ t, o2 t ≤ (k + 1) * 4294836225) ∧ (∀ t, k + j ≤ t → o2 t ≤ k * 4294836225)) [(3, ptr r2), (4, ptr r3), (5, ptr r4), (12, .agg (arr .u64 16 (d16 x))), (13, ii k), (6, ii k), (7, u (d16 x k)), (17, .agg (arr .u64 16 (d16 y))), (18, ii 0)] [(0, ⟨r1, arr .u64 16 (d16 x), 41⟩), (1, ⟨r2, arr .u64 16 (d16 y), 41⟩), (2, ⟨r3, arr .u64 16 (fun _ => 0), 41⟩), (3, ⟨r4, arr .u64 32 o, 64⟩)] (16 - 0) ⟨rfl, rfl, rfl, rfl, rfl, rfl, rfl, rfl, rfl, trivial⟩ ⟨rfl, rfl, rfl, rfl, trivial⟩ ⟨0, o, rfl, rfl, rfl, by omega, by rw [hf0_1]; simp [Nat.mod_one], fun t => Nat.le_trans (hf0_2 t) (Nat.mul_le_mul_right _ (Nat.le_succ k)), fun t _ => hf0_2 t⟩ ?_
    rintro kk E m ⟨j, o2, rfl, rfl, rfl, hf1_0, hf1_1, hf1_2, hf1_3⟩
    have hml := mul16_le x y k j
    have hok := hf1_2 (k + j)
    refine e_seq ?_
    refine e_plain ?_
    refine e_lt rfl rfl rfl ?_
    refine e_nil ?_
    refine e_seq ?_
    refine e_cond rfl ?_ ?_
    · intro hc1
      have hc1 := of_decide_eq_true hc1
      refine e_skip ?_
      refine e_seq ?_
      refine e_block ?_
      refine e_seq ?_
      refine e_plain ?_
      refine e_move rfl rfl ?_
      refine e_idx und41 und29 siz29 rfl rfl (by omega) rfl ?_
      refine e_assign rfl rfl ?_
      refine e_assign rfl rfl ?_
      refine e_nil ?_
      refine e_plain ?_
      refine e_move rfl rfl ?_
      refine e_move rfl rfl ?_
      refine e_add_i rfl rfl rfl (by omega) ?_
      refine e_index0 und64 siz29 rfl rfl (by omega) rfl ?_
      refine e_load1 (i := 3) und29 rfl rfl rfl (arr_get (by omega)) rfl ⟨[], trivial⟩ ?_
      refine e_move rfl rfl ?_
      refine e_move rfl rfl ?_
      refine e_mul_u rfl rfl rfl  ?_
      refine e_as (congrArg u (Nat.mod_eq_of_lt (show d16 x k * d16 y j < 18446744073709551616 by omega))) ?_
      refine e_add_u rfl rfl rfl  ?_
      refine e_as (congrArg u (add_form (o2 (k + j)) (d16 x k * d16 y j) (by omega) (by omega))) ?_
      refine e_index0 und64 siz29 rfl rfl (by omega) rfl ?_
      refine e_storeN (i := 3) siz29 rfl rfl rfl (by omega) (.inl rfl) ?_
      refine e_nil ?_
      refine e_plain ?_
      refine e_add_i (q := 1) rfl rfl rfl (by omega) ?_
      refine e_move rfl rfl ?_
      refine e_nil ?_
      refine ⟨_, [(3, ptr r2), (4, ptr r3), (5, ptr r4), (12, .agg (arr .u64 16 (d16 x))), (13, ii k), (6, ii k), (7, u (d16 x k)), (17, .agg (arr .u64 16 (d16 y))), (18, ii (j + 1))], [(0, ⟨r1, arr .u64 16 (d16 x), 41⟩), (1, ⟨r2, arr .u64 16 (d16 y), 41⟩), (2, ⟨r3, arr .u64 16 (fun _ => 0), 41⟩), (3, ⟨r4, arr .u64 32 (upd o2 (k + j) (o2 (k + j) + d16 x k * d16 y j)), 64⟩)], ?_, ⟨rfl, rfl, rfl, rfl, rfl, rfl, rfl, rfl, rfl, trivial⟩, ⟨rfl, rfl, rfl, rfl, trivial⟩, j + 1, upd o2 (k + j) (o2 (k + j) + d16 x k * d16 y j), rfl, rfl, rfl, by omega, prod_in (by omega) hf1_1, bnd_all hf1_2 hf1_3 (mul16_le x y k j), bnd_up hf1_3⟩
      omega
    · intro hc1
      have hc1 := of_decide_eq_false hc1
      have hj : j = 16 := by omega
      subst hj
      refine e_exit ?_
      refine e_plain ?_
      refine e_add_i (q := 1) rfl rfl rfl (by omega) ?_
      refine e_move rfl rfl ?_
      refine e_nil ?_
      refine ⟨_, [(3, ptr r2), (4, ptr r3), (5, ptr r4), (12, .agg (arr .u64 16 (d16 x))), (13, ii (k + 1))], [(0, ⟨r1, arr .u64 16 (d16 x), 41⟩), (1, ⟨r2, arr .u64 16 (d16 y), 41⟩), (2, ⟨r3, arr .u64 16 (fun _ => 0), 41⟩), (3, ⟨r4, arr .u64 32 o2, 64⟩)], ?_, ⟨rfl, rfl, rfl, rfl, rfl, trivial⟩, ⟨rfl, rfl, rfl, rfl, trivial⟩, k + 1, o2, rfl, rfl, rfl, by omega, prod_out hy hf1_1, hf1_2⟩
      omega
  · intro hc0
    have hc0 := of_decide_eq_false hc0
    have hk : k = 16 := by omega
    subst hk
    rw [Nat.mod_eq_of_lt (show x < 2 ^ (16 * 16) from hx)] at hf0_1
    refine e_exit ?_
    refine e_seq ?_
    refine e_plain ?_
    refine e_alloc 4 zer41 rfl fun r5 => ?_
    refine e_nil ?_
    refine e_seq ?_
    refine e_seq ?_
    refine e_plain ?_
    refine e_move rfl rfl ?_
    refine e_nil ?_
    refine e_block ?_
    refine e_loop (fun kk E m => ∃ (i : Nat) (s : Nat → Nat), kk = 16 - i ∧ E = [(4, ptr r3), (5, ptr r4), (10, ptr r5), (34, ii i)] ∧ m = [(0, ⟨r1, arr .u64 16 (d16 x), 41⟩), (1, ⟨r2, arr .u64 16 (d16 y), 41⟩), (2, ⟨r3, arr .u64 16 (fun _ => 0), 41⟩), (3, ⟨r4, arr .u64 32 o, 64⟩), (4, ⟨r5, arr .u64 16 s, 41⟩)] ∧ (i ≤ 16) ∧ (∀ t, t < i → s t = o t + 38 * o (t + 16))) [(4, ptr r3), (5, ptr r4), (10, ptr r5), (34, ii 0)] [(0, ⟨r1, arr .u64 16 (d16 x), 41⟩), (1, ⟨r2, arr .u64 16 (d16 y), 41⟩), (2, ⟨r3, arr .u64 16 (fun _ => 0), 41⟩), (3, ⟨r4, arr .u64 32 o, 64⟩), (4, ⟨r5, arr .u64 16 (fun _ => 0), 41⟩)] (16 - 0) ⟨rfl, rfl, rfl, rfl, trivial⟩ ⟨rfl, rfl, rfl, rfl, rfl, trivial⟩ ⟨0, fun _ => 0, rfl, rfl, rfl, by omega, fun t ht => absurd ht (Nat.not_lt_zero t)⟩ ?_
    rintro kk E m ⟨i, s, rfl, rfl, rfl, hf2_0, hf2_1⟩
    have ho1 := hf0_2 i
    have ho2 := hf0_2 (i + 16)
    refine e_seq ?_
    refine e_plain ?_
    refine e_lt rfl rfl rfl ?_
    refine e_nil ?_
    refine e_seq ?_
    refine e_cond rfl ?_ ?_
    · intro hc2
      have hc2 := of_decide_eq_true hc2
      refine e_skip ?_
      refine e_seq ?_
      refine e_block ?_
      refine e_seq ?_
      refine e_plain ?_
      refine e_move rfl rfl ?_
      refine e_assign rfl rfl ?_
      refine e_nil ?_
      refine e_draw mixed (by kernel_rfl) ?_
      refine e_move rfl rfl ?_
      refine e_move rfl rfl ?_
      refine e_index0 und64 siz29 rfl rfl (by omega) rfl ?_
      refine e_load1 (i := 3) und29 rfl rfl rfl (arr_get (by omega)) rfl ⟨[], trivial⟩ ?_
      refine e_move rfl rfl ?_
      refine e_add_i (q := 16) rfl rfl rfl (by omega) ?_
      refine e_index0 und64 siz29 rfl rfl (by omega) rfl ?_
      refine e_load1 (i := 3) und29 rfl rfl rfl (arr_get (by omega)) rfl ⟨[], trivial⟩ ?_
      refine e_mul_u (p := 38) rfl rfl rfl  ?_
      refine e_as (congrArg u (Nat.mod_eq_of_lt (show 38 * o (i + 16) < 18446744073709551616 by omega))) ?_
      refine e_add_u rfl rfl rfl  ?_
      refine e_as (congrArg u (add_form (o i) (38 * o (i + 16)) (by omega) (by omega))) ?_
      refine e_index0 und41 siz29 rfl rfl (by omega) rfl ?_
      refine e_storeN (i := 4) siz29 rfl rfl rfl (by omega) (.inl rfl) ?_
      refine e_nil ?_
      refine e_plain ?_
      refine e_add_i (q := 1) rfl rfl rfl (by omega) ?_
      refine e_move rfl rfl ?_
      refine e_nil ?_
      refine ⟨_, [(4, ptr r3), (5, ptr r4), (10, ptr r5), (34, ii (i + 1))], [(0, ⟨r1, arr .u64 16 (d16 x), 41⟩), (1, ⟨r2, arr .u64 16 (d16 y), 41⟩), (2, ⟨r3, arr .u64 16 (fun _ => 0), 41⟩), (3, ⟨r4, arr .u64 32 o, 64⟩), (4, ⟨r5, arr .u64 16 (upd s i (o i + 38 * o (i + 16))), 41⟩)], ?_, ⟨rfl, rfl, rfl, rfl, trivial⟩, ⟨rfl, rfl, rfl, rfl, rfl, trivial⟩, i + 1, upd s i (o i + 38 * o (i + 16)), rfl, rfl, rfl, by omega, upd_lt (g := fun t => o t + 38 * o (t + 16)) hf2_1 rfl⟩
      omega
    · intro hc2
      have hc2 := of_decide_eq_false hc2
      have hi : i = 16 := by omega
      subst hi
      refine e_exit ?_
      refine e_seq ?_
      refine e_plain ?_
      refine e_loadA (i := 4) und41 rfl siz41 rfl rfl (arr_size _ _ _) rfl ⟨[], trivial⟩ ?_
      refine e_call rfl ent33 (carried_fn s (fun t ht => by rw [hf2_1 t ht]; have := hf0_2 t; have := hf0_2 (t + 16); omega)) rfl rfl ?_
      refine e_storeA (i := 2) siz41 rfl rfl (arr_size _ _ _) arr_one rfl (arr_sz _ _ _ _ _) (.inl rfl) ?_
      refine e_nil ?_
      refine e_ret ?_
      rw [← prod_fin hf0_1 hf2_1]
      exact ⟨_, rfl, .cell (i := 2) rfl rfl und41 rfl siz41 (arr_size _ _ _)⟩

end Go.Proofs.YthhcgeoldjmpaaaDoor
