/-
  Walks, written by a program of ours off the loaded functions.
-/
import Derived.Test.YthhcgeoldjmpaaaW1
import Derived.Test.YthhcgeoldjmpaaaNum3
namespace Go.Proofs.Ythhcgeoldjmpaaa
open Go Go.RowKit


theorem ent36 : enters Try.prog 36 = true := by kernel_rfl
theorem ent37 : enters Try.prog 37 = true := by kernel_rfl
theorem ent38 : enters Try.prog 38 = true := by kernel_rfl
theorem ent39 : enters Try.prog 39 = true := by kernel_rfl
theorem siz64 : (Try.prog.info? 64).map (·.size) = some 8 := by kernel_rfl
theorem und64 : Try.prog.underlying 64 = some (.array 8 34) := by kernel_rfl
theorem zer64 : (Try.prog.info? 64).bind (·.zero) = some (.agg (arr .u64 8 fun _ => 0)) := by kernel_rfl

variable {G : Mem}

set_option maxHeartbeats 400000 in
theorem mul64_fn (x y : Nat) (hx : x < 18446744073709551616) (hy : y < 18446744073709551616) : Fn Try.prog G 39 #[u x, u y] (.tuple #[u (x * y / 18446744073709551616), u (x * y % 18446744073709551616)]) := by
  refine fn2 (n := 51) Try.func39 rfl rfl (by simp) (argE [u x, u y] 0) (argE_ok _) ?_
  refine e_seq ?_
  refine e_plain ?_
  refine e_assign rfl rfl ?_
  refine e_assign rfl rfl ?_
  refine e_nil ?_
  refine e_seq ?_
  refine e_plain ?_
  refine e_move rfl rfl ?_
  refine e_and_u (q := 4294967295) rfl rfl rfl  ?_
  refine e_assign rfl rfl ?_
  refine e_nil ?_
  refine e_seq ?_
  refine e_plain ?_
  refine e_move rfl rfl ?_
  refine e_shr_u (s := 32) rfl rfl rfl (by omega) ?_
  refine e_assign rfl rfl ?_
  refine e_nil ?_
  refine e_seq ?_
  refine e_plain ?_
  refine e_move rfl rfl ?_
  refine e_and_u (q := 4294967295) rfl rfl rfl  ?_
  refine e_assign rfl rfl ?_
  refine e_nil ?_
  refine e_seq ?_
  refine e_plain ?_
  refine e_move rfl rfl ?_
  refine e_shr_u (s := 32) rfl rfl rfl (by omega) ?_
  refine e_assign rfl rfl ?_
  refine e_nil ?_
  refine e_seq ?_
  refine e_plain ?_
  refine e_move rfl rfl ?_
  refine e_move rfl rfl ?_
  refine e_mul_u rfl rfl rfl  ?_
  refine e_assign rfl rfl ?_
  refine e_nil ?_
  refine e_seq ?_
  refine e_plain ?_
  refine e_move rfl rfl ?_
  refine e_move rfl rfl ?_
  refine e_mul_u rfl rfl rfl  ?_
  refine e_move rfl rfl ?_
  refine e_shr_u (s := 32) rfl rfl rfl (by omega) ?_
  refine e_add_u rfl rfl rfl  ?_
  refine e_assign rfl rfl ?_
  refine e_nil ?_
  refine e_seq ?_
  refine e_plain ?_
  refine e_move rfl rfl ?_
  refine e_and_u (q := 4294967295) rfl rfl rfl  ?_
  refine e_assign rfl rfl ?_
  refine e_nil ?_
  refine e_seq ?_
  refine e_plain ?_
  refine e_move rfl rfl ?_
  refine e_shr_u (s := 32) rfl rfl rfl (by omega) ?_
  refine e_assign rfl rfl ?_
  refine e_nil ?_
  refine e_seq ?_
  refine e_plain ?_
  refine e_move rfl rfl ?_
  refine e_move rfl rfl ?_
  refine e_move rfl rfl ?_
  refine e_mul_u rfl rfl rfl  ?_
  refine e_add_u rfl rfl rfl  ?_
  refine e_assign rfl rfl ?_
  refine e_nil ?_
  refine e_seq ?_
  refine e_plain ?_
  refine e_move rfl rfl ?_
  refine e_move rfl rfl ?_
  refine e_mul_u rfl rfl rfl  ?_
  refine e_move rfl rfl ?_
  refine e_add_u rfl rfl rfl  ?_
  refine e_move rfl rfl ?_
  refine e_shr_u (s := 32) rfl rfl rfl (by omega) ?_
  refine e_add_u rfl rfl rfl  ?_
  refine e_assign rfl rfl ?_
  refine e_nil ?_
  refine e_seq ?_
  refine e_plain ?_
  refine e_move rfl rfl ?_
  refine e_move rfl rfl ?_
  refine e_mul_u rfl rfl rfl  ?_
  refine e_assign rfl rfl ?_
  refine e_nil ?_
  refine e_ret ?_
  rw [← mul64_hi x y hx hy]
  exact ⟨_, _, rfl, .tmp rfl, .tmp rfl⟩

set_option maxHeartbeats 400000 in
theorem step_fn (a b c d : Nat) (ha : a < 18446744073709551616) (hb : b < 18446744073709551616) (hc : c < 18446744073709551616) (hd : d < 18446744073709551616) : Fn Try.prog G 38 #[u a, u b, u c, u d] (.tuple #[u ((a * b + c + d) % 18446744073709551616), u ((a * b + c + d) / 18446744073709551616)]) := by
  have hp := prod_lt ha hb
  refine fn2 (n := 38) Try.func38 rfl rfl (by simp) (argE [u a, u b, u c, u d] 0) (argE_ok _) ?_
  refine e_seq ?_
  refine e_plain ?_
  refine e_assign rfl rfl ?_
  refine e_assign rfl rfl ?_
  refine e_nil ?_
  refine e_seq ?_
  refine e_plain ?_
  refine e_move rfl rfl ?_
  refine e_move rfl rfl ?_
  refine e_call rfl ent39 (mul64_fn _ _ (by omega) (by omega)) rfl rfl ?_
  refine e_move rfl rfl ?_
  refine e_extract rfl rfl rfl ?_
  refine e_extract rfl rfl rfl ?_
  refine e_assign rfl rfl ?_
  refine e_assign rfl rfl ?_
  refine e_nil ?_
  refine e_seq ?_
  refine e_plain ?_
  refine e_move rfl rfl ?_
  refine e_move rfl rfl ?_
  refine e_callE rfl (fun w => add64 _ _ 0 (by omega) w) rfl rfl ?_
  refine e_move rfl rfl ?_
  refine e_extract rfl rfl rfl ?_
  refine e_extract rfl rfl rfl ?_
  refine e_assign rfl rfl ?_
  refine e_assign rfl rfl ?_
  refine e_nil ?_
  refine e_seq ?_
  refine e_plain ?_
  refine e_move rfl rfl ?_
  refine e_move rfl rfl ?_
  refine e_add_u rfl rfl rfl  ?_
  refine e_assign rfl rfl ?_
  refine e_nil ?_
  refine e_seq ?_
  refine e_plain ?_
  refine e_move rfl rfl ?_
  refine e_move rfl rfl ?_
  refine e_callE rfl (fun w => add64 _ _ 0 (by omega) w) rfl rfl ?_
  refine e_move rfl rfl ?_
  refine e_extract rfl rfl rfl ?_
  refine e_extract rfl rfl rfl ?_
  refine e_assign rfl rfl ?_
  refine e_assign rfl rfl ?_
  refine e_nil ?_
  refine e_seq ?_
  refine e_plain ?_
  refine e_move rfl rfl ?_
  refine e_move rfl rfl ?_
  refine e_move rfl rfl ?_
  refine e_add_u rfl rfl rfl  ?_
  refine e_assign rfl rfl ?_
  refine e_assign rfl rfl ?_
  refine e_nil ?_
  refine e_ret ?_
  rw [← step_lo, ← step_hi _ _ _ hp hc hd]
  exact ⟨_, _, rfl, .tmp rfl, .tmp rfl⟩

set_option maxHeartbeats 400000 in
theorem wide_fn (a b : Nat) (ha : a < 2 ^ 256) (hb : b < 2 ^ 256) : Fn Try.prog G 37 #[fe a, fe b] (.agg (arr .u64 8 (wd (a * b)))) := by
  refine fn1 (n := 42) Try.func37 rfl rfl (by simp) (argE [fe a, fe b] 0) (argE_ok _) ?_
  refine e_seq ?_
  refine e_plain ?_
  refine e_box 0 rfl rfl fun r1 => ?_
  refine e_box 1 rfl rfl fun r2 => ?_
  refine e_alloc 2 zer64 rfl fun r3 => ?_
  refine e_nil ?_
  refine e_seq ?_
  refine e_plain ?_
  refine e_alloc 3 zer64 rfl fun r4 => ?_
  refine e_nil ?_
  refine e_seq ?_
  refine e_seq ?_
  refine e_plain ?_
  refine e_move rfl rfl ?_
  refine e_nil ?_
  refine e_block ?_
  refine e_loop (fun kk E m => ∃ (k : Nat) (s : Nat → Nat), kk = 4 - k ∧ E = [(2, ptr r1), (3, ptr r2), (4, ptr r3), (5, ptr r4), (9, ii k)] ∧ m = [(0, ⟨r1, arr .u64 4 (wd a), 36⟩), (1, ⟨r2, arr .u64 4 (wd b), 36⟩), (2, ⟨r3, arr .u64 8 (fun _ => 0), 64⟩), (3, ⟨r4, arr .u64 8 s, 64⟩)] ∧ (k ≤ 4) ∧ (∀ t, t < 8 → s t = wd (a % 2 ^ (64 * k) * b) t)) [(2, ptr r1), (3, ptr r2), (4, ptr r3), (5, ptr r4), (9, ii 0)] [(0, ⟨r1, arr .u64 4 (wd a), 36⟩), (1, ⟨r2, arr .u64 4 (wd b), 36⟩), (2, ⟨r3, arr .u64 8 (fun _ => 0), 64⟩), (3, ⟨r4, arr .u64 8 (fun _ => 0), 64⟩)] (4 - 0) ⟨rfl, rfl, rfl, rfl, rfl, trivial⟩ ⟨rfl, rfl, rfl, rfl, trivial⟩ ⟨0, fun _ => 0, rfl, rfl, rfl, by omega, fun t _ => by simp [Nat.mod_one, wd]⟩ ?_
  rintro kk E m ⟨k, s, rfl, rfl, rfl, hf0_0, hf0_1⟩
  refine e_seq ?_
  refine e_plain ?_
  refine e_lt rfl rfl rfl ?_
  refine e_nil ?_
  refine e_seq ?_
  refine e_cond rfl ?_ ?_
  · intro hc0
    have hc0 := of_decide_eq_true hc0
    refine e_skip ?_
    refine e_seq ?_
    refine e_block ?_
    refine e_seq ?_
    refine e_plain ?_
    refine e_move rfl rfl ?_
    refine e_assign rfl rfl ?_
    refine e_nil ?_
    refine e_seq ?_
    refine e_plain ?_
    refine e_assign rfl rfl ?_
    refine e_nil ?_
    refine e_seq ?_
    refine e_seq ?_
    refine e_plain ?_
    refine e_move rfl rfl ?_
    refine e_nil ?_
    refine e_block ?_
    refine e_loop (fun kk E m => ∃ (j : Nat) (s2 : Nat → Nat), kk = 4 - j ∧ E = [(2, ptr r1), (3, ptr r2), (4, ptr r3), (5, ptr r4), (9, ii k), (6, ii k), (7, u (wO a b k j)), (12, ii j)] ∧ m = [(0, ⟨r1, arr .u64 4 (wd a), 36⟩), (1, ⟨r2, arr .u64 4 (wd b), 36⟩), (2, ⟨r3, arr .u64 8 (fun _ => 0), 64⟩), (3, ⟨r4, arr .u64 8 s2, 64⟩)] ∧ (j ≤ 4) ∧ (∀ t, t < k + j → s2 t = wd (wS a b k j) t) ∧ (∀ t, k + j ≤ t → t < 8 → s2 t = wd (a % 2 ^ (64 * k) * b) t)) [(2, ptr r1), (3, ptr r2), (4, ptr r3), (5, ptr r4), (9, ii k), (6, ii k), (7, u (wO a b k 0)), (12, ii 0)] [(0, ⟨r1, arr .u64 4 (wd a), 36⟩), (1, ⟨r2, arr .u64 4 (wd b), 36⟩), (2, ⟨r3, arr .u64 8 (fun _ => 0), 64⟩), (3, ⟨r4, arr .u64 8 s, 64⟩)] (4 - 0) ⟨rfl, rfl, rfl, rfl, rfl, rfl, by rw [wO_zero]; rfl, rfl, trivial⟩ ⟨rfl, rfl, rfl, rfl, trivial⟩ ⟨0, s, rfl, rfl, rfl, by omega, fun t ht => (hf0_1 t (by omega)).trans (wS_zero a b k t (by omega)).symm, fun t _ ht => hf0_1 t ht⟩ ?_
    rintro kk E m ⟨j, s2, rfl, rfl, rfl, hf1_0, hf1_1, hf1_2⟩
    have ha1 := wd_lt a k
    have hb1 := wd_lt b j
    have ho1 := wO_lt a b k j (by omega)
    have hs2 : (j : Int) < 4 → s2 (k + j) = wd (a % 2 ^ (64 * k) * b) (k + j) := fun h => hf1_2 (k + j) (by omega) (by omega)
    refine e_seq ?_
    refine e_plain ?_
    refine e_lt rfl rfl rfl ?_
    refine e_nil ?_
    refine e_seq ?_
    refine e_cond rfl ?_ ?_
    · intro hc1
      have hc1 := of_decide_eq_true hc1
      refine e_skip ?_
      refine e_seq ?_
      refine e_block ?_
      refine e_seq ?_
      refine e_plain ?_
      refine e_move rfl rfl ?_
      refine e_assign rfl rfl ?_
      refine e_nil ?_
      refine e_draw mixed (by kernel_rfl) ?_
      refine e_move rfl rfl ?_
      refine e_move rfl rfl ?_
      refine e_add_i rfl rfl rfl (by omega) ?_
      refine e_move rfl rfl ?_
      refine e_index0 und36 siz34 rfl rfl (by omega) rfl ?_
      refine e_load1 (i := 0) und34 rfl rfl rfl (arr_get (by omega)) rfl ⟨[], trivial⟩ ?_
      refine e_move rfl rfl ?_
      refine e_index0 und36 siz34 rfl rfl (by omega) rfl ?_
      refine e_load1 (i := 1) und34 rfl rfl rfl (arr_get (by omega)) rfl ⟨[], trivial⟩ ?_
      refine e_move rfl rfl ?_
      refine e_move rfl rfl ?_
      refine e_add_i rfl rfl rfl (by omega) ?_
      refine e_index0 und64 siz34 rfl rfl (by omega) rfl ?_
      refine e_load1 (i := 3) und34 rfl rfl rfl (arr_get (by omega)) rfl ⟨[], trivial⟩ ?_
      refine e_move rfl rfl ?_
      have hs3 := wd_lt (a % 2 ^ (64 * k) * b) (k + j); have hs4 := hs2 hc1
      refine e_call rfl ent38 (step_fn _ _ _ _ (by omega) (by omega) (by omega) (by omega)) rfl rfl ?_
      refine e_move rfl rfl ?_
      refine e_extract rfl rfl rfl ?_
      refine e_extract rfl rfl rfl ?_
      refine e_index0 und64 siz34 rfl rfl (by omega) rfl ?_
      refine e_storeN (i := 3) siz34 rfl rfl rfl (by omega) (.inl rfl) ?_
      refine e_assign rfl rfl ?_
      refine e_nil ?_
      refine e_plain ?_
      refine e_add_i (q := 1) rfl rfl rfl (by omega) ?_
      refine e_move rfl rfl ?_
      refine e_nil ?_
      refine ⟨_, [(2, ptr r1), (3, ptr r2), (4, ptr r3), (5, ptr r4), (9, ii k), (6, ii k), (7, u (wO a b k (j + 1))), (12, ii (j + 1))], [(0, ⟨r1, arr .u64 4 (wd a), 36⟩), (1, ⟨r2, arr .u64 4 (wd b), 36⟩), (2, ⟨r3, arr .u64 8 (fun _ => 0), 64⟩), (3, ⟨r4, arr .u64 8 (upd s2 (k + j) _), 64⟩)], ?_, ⟨rfl, rfl, rfl, rfl, rfl, rfl, by rw [← wide_hi, ← hs2 hc1]; rfl, rfl, trivial⟩, ⟨rfl, rfl, rfl, rfl, trivial⟩, j + 1, upd s2 (k + j) _, rfl, rfl, rfl, by omega, by rw [hs2 hc1]; exact inner_low hf1_1, fun t h1 h2 => by rw [← hf1_2 t (by omega) h2]; unfold upd; rw [if_neg (by omega)]⟩
      omega
    · intro hc1
      have hc1 := of_decide_eq_false hc1
      have hj4 : j = 4 := by omega
      subst hj4
      refine e_exit ?_
      refine e_plain ?_
      refine e_move rfl rfl ?_
      refine e_add_i (q := 4) rfl rfl rfl (by omega) ?_
      refine e_move rfl rfl ?_
      refine e_index0 und64 siz34 rfl rfl (by omega) rfl ?_
      refine e_storeN (i := 3) siz34 rfl rfl rfl (by omega) (.inl rfl) ?_
      refine e_nil ?_
      refine e_plain ?_
      refine e_add_i (q := 1) rfl rfl rfl (by omega) ?_
      refine e_move rfl rfl ?_
      refine e_nil ?_
      refine ⟨_, [(2, ptr r1), (3, ptr r2), (4, ptr r3), (5, ptr r4), (9, ii (k + 1))], [(0, ⟨r1, arr .u64 4 (wd a), 36⟩), (1, ⟨r2, arr .u64 4 (wd b), 36⟩), (2, ⟨r3, arr .u64 8 (fun _ => 0), 64⟩), (3, ⟨r4, arr .u64 8 (upd s2 (k + 4) _), 64⟩)], ?_, ⟨rfl, rfl, rfl, rfl, rfl, trivial⟩, ⟨rfl, rfl, rfl, rfl, trivial⟩, k + 1, upd s2 (k + 4) _, rfl, rfl, rfl, by omega, outer_row hb hf1_1 hf1_2⟩
      omega
  · intro hc0
    have hc0 := of_decide_eq_false hc0
    refine e_exit ?_
    refine e_seq ?_
    refine e_plain ?_
    refine e_loadA (i := 3) und64 rfl siz64 rfl rfl (arr_size _ _ _) rfl ⟨[], trivial⟩ ?_
    refine e_storeA (i := 2) siz64 rfl rfl (arr_size _ _ _) arr_one rfl (arr_sz _ _ _ _ _) (.inl rfl) ?_
    refine e_nil ?_
    refine e_ret ?_
    have hk4 : k = 4 := by omega
    subst hk4
    rw [Nat.mod_eq_of_lt (show a < 2 ^ (64 * 4) from ha)] at hf0_1
    rw [← arr_congr hf0_1]
    exact ⟨_, rfl, .cell (i := 2) rfl rfl und64 rfl siz64 (arr_size _ _ _)⟩

set_option maxHeartbeats 400000 in
theorem product_fn (a b : Nat) (ha : a < 2 ^ 256) (hb : b < 2 ^ 256) : Fn Try.prog G 36 #[fe a, fe b] (fe (a * b % PP)) := by
  refine fn1 (n := 33) Try.func36 rfl rfl (by simp) (argE [fe a, fe b] 0) (argE_ok _) ?_
  refine e_seq ?_
  refine e_plain ?_
  refine e_box 0 rfl rfl fun r1 => ?_
  refine e_box 1 rfl rfl fun r2 => ?_
  refine e_alloc 2 zer36 rfl fun r3 => ?_
  refine e_nil ?_
  refine e_seq ?_
  refine e_plain ?_
  refine e_loadA (i := 0) und36 rfl siz36 rfl rfl (arr_size _ _ _) rfl ⟨[], trivial⟩ ?_
  refine e_loadA (i := 1) und36 rfl siz36 rfl rfl (arr_size _ _ _) rfl ⟨[], trivial⟩ ?_
  refine e_call rfl ent37 (wide_fn _ _ (by omega) (by omega)) rfl rfl ?_
  refine e_alloc 3 zer64 rfl fun r4 => ?_
  refine e_storeA (i := 3) siz64 rfl rfl (arr_size _ _ _) arr_one rfl (arr_sz _ _ _ _ _) (.inl rfl) ?_
  refine e_nil ?_
  refine e_seq ?_
  refine e_plain ?_
  refine e_alloc 4 zer36 rfl fun r5 => ?_
  refine e_nil ?_
  refine e_seq ?_
  refine e_plain ?_
  refine e_assign rfl rfl ?_
  refine e_nil ?_
  refine e_seq ?_
  refine e_seq ?_
  refine e_plain ?_
  refine e_move rfl rfl ?_
  refine e_nil ?_
  refine e_block ?_
  refine e_loop (fun kk E m => ∃ (k : Nat) (s : Nat → Nat), kk = 4 - k ∧ E = [(4, ptr r3), (5, ptr r4), (6, ptr r5), (7, u (pS (a * b) k / 2 ^ (64 * k))), (12, ii k)] ∧ m = [(0, ⟨r1, arr .u64 4 (wd a), 36⟩), (1, ⟨r2, arr .u64 4 (wd b), 36⟩), (2, ⟨r3, arr .u64 4 (fun _ => 0), 36⟩), (3, ⟨r4, arr .u64 8 (wd (a * b)), 64⟩), (4, ⟨r5, arr .u64 4 s, 36⟩)] ∧ (k ≤ 4) ∧ (∀ t, t < k → s t = wd (pS (a * b) k) t)) [(4, ptr r3), (5, ptr r4), (6, ptr r5), (7, u (pS (a * b) 0 / 2 ^ (64 * 0))), (12, ii 0)] [(0, ⟨r1, arr .u64 4 (wd a), 36⟩), (1, ⟨r2, arr .u64 4 (wd b), 36⟩), (2, ⟨r3, arr .u64 4 (fun _ => 0), 36⟩), (3, ⟨r4, arr .u64 8 (wd (a * b)), 64⟩), (4, ⟨r5, arr .u64 4 (fun _ => 0), 36⟩)] (4 - 0) ⟨rfl, rfl, rfl, by rw [pS_zero]; rfl, rfl, trivial⟩ ⟨rfl, rfl, rfl, rfl, rfl, trivial⟩ ⟨0, fun _ => 0, rfl, rfl, rfl, by omega, fun t ht => absurd ht (Nat.not_lt_zero t)⟩ ?_
  rintro kk E m ⟨k, s, rfl, rfl, rfl, hf0_0, hf0_1⟩
  have hw1 := wd_lt (a * b) k
  have hw2 := wd_lt (a * b) (k + 4)
  have hov := pS_lt (a * b) k
  refine e_seq ?_
  refine e_plain ?_
  refine e_lt rfl rfl rfl ?_
  refine e_nil ?_
  refine e_seq ?_
  refine e_cond rfl ?_ ?_
  · intro hc0
    have hc0 := of_decide_eq_true hc0
    refine e_skip ?_
    refine e_seq ?_
    refine e_block ?_
    refine e_seq ?_
    refine e_plain ?_
    refine e_move rfl rfl ?_
    refine e_assign rfl rfl ?_
    refine e_nil ?_
    refine e_draw mixed (by kernel_rfl) ?_
    refine e_move rfl rfl ?_
    refine e_move rfl rfl ?_
    refine e_add_i (q := 4) rfl rfl rfl (by omega) ?_
    refine e_index0 und64 siz34 rfl rfl (by omega) rfl ?_
    refine e_load1 (i := 3) und34 rfl rfl rfl (arr_get (by omega)) rfl ⟨[], trivial⟩ ?_
    refine e_move rfl rfl ?_
    refine e_index0 und64 siz34 rfl rfl (by omega) rfl ?_
    refine e_load1 (i := 3) und34 rfl rfl rfl (arr_get (by omega)) rfl ⟨[], trivial⟩ ?_
    refine e_move rfl rfl ?_
    refine e_call rfl ent38 (step_fn _ 38 _ _ (by omega) (by omega) (by omega) (by omega)) rfl rfl ?_
    refine e_move rfl rfl ?_
    refine e_extract rfl rfl rfl ?_
    refine e_extract rfl rfl rfl ?_
    refine e_index0 und36 siz34 rfl rfl (by omega) rfl ?_
    refine e_storeN (i := 4) siz34 rfl rfl rfl (by omega) (.inl rfl) ?_
    refine e_assign rfl rfl ?_
    refine e_nil ?_
    refine e_plain ?_
    refine e_add_i (q := 1) rfl rfl rfl (by omega) ?_
    refine e_move rfl rfl ?_
    refine e_nil ?_
    refine ⟨_, [(4, ptr r3), (5, ptr r4), (6, ptr r5), (7, u (pS (a * b) (k + 1) / 2 ^ (64 * (k + 1)))), (12, ii (k + 1))], [(0, ⟨r1, arr .u64 4 (wd a), 36⟩), (1, ⟨r2, arr .u64 4 (wd b), 36⟩), (2, ⟨r3, arr .u64 4 (fun _ => 0), 36⟩), (3, ⟨r4, arr .u64 8 (wd (a * b)), 64⟩), (4, ⟨r5, arr .u64 4 (upd s k _), 36⟩)], ?_, ⟨rfl, rfl, rfl, by rw [← pS_hi]; rfl, rfl, trivial⟩, ⟨rfl, rfl, rfl, rfl, rfl, trivial⟩, k + 1, upd s k _, rfl, rfl, rfl, by omega, pS_low hf0_1⟩
    omega
  · intro hc0
    have hc0 := of_decide_eq_false hc0
    have hk4 : k = 4 := by omega
    subst hk4
    refine e_exit ?_
    refine e_seq ?_
    refine e_plain ?_
    refine e_loadA (i := 4) und36 rfl siz36 rfl rfl (arr_size _ _ _) rfl ⟨[], trivial⟩ ?_
    refine e_as (fe_of (fun j hj => (hf0_1 j hj).trans (wd_mod256 _ j hj).symm)).symm ?_
    refine e_move rfl rfl ?_
    refine e_call rfl ent15 (fold_fn _ _ (Nat.mod_lt _ (Nat.pow_pos (by decide))) (by omega)) rfl rfl ?_
    refine e_storeA (i := 2) siz36 rfl rfl (arr_size _ _ _) arr_one rfl (arr_sz _ _ _ _ _) (.inl rfl) ?_
    refine e_nil ?_
    refine e_ret ?_
    rw [← pS_fin (a * b) (mul_lt512 ha hb)]
    exact ⟨_, rfl, .cell (i := 2) rfl rfl und36 rfl siz36 (arr_size _ _ _)⟩

set_option maxHeartbeats 400000 in
theorem inverse_fn (a : Nat) (ha : a < 2 ^ 256) : Fn Try.prog G 30 #[fe a] (fe (a ^ EE % PP)) := by
  have hPP := PP_eq
  refine fn1 (n := 23) Try.func30 rfl rfl (by simp) (argE [fe a] 0) (argE_ok _) ?_
  refine e_seq ?_
  refine e_plain ?_
  refine e_box 0 rfl rfl fun r1 => ?_
  refine e_alloc 1 zer36 rfl fun r2 => ?_
  refine e_nil ?_
  refine e_seq ?_
  refine e_plain ?_
  refine e_build (arr .u64 4 (upd (fun _ => 0) 0 1)) zer36 und36 siz34 rfl rfl rfl ?_
  refine e_as (fe_one 1 (by decide)) ?_
  refine e_alloc 2 zer36 rfl fun r3 => ?_
  refine e_storeA (i := 2) siz36 rfl rfl (arr_size _ _ _) arr_one rfl (arr_sz _ _ _ _ _) (.inl rfl) ?_
  refine e_nil ?_
  refine e_seq ?_
  refine e_seq ?_
  refine e_plain ?_
  refine e_assign rfl rfl ?_
  refine e_nil ?_
  refine e_block ?_
  refine e_loop (fun kk E m => ∃ (k : Nat) (pw : Nat), kk = 255 - k ∧ E = [(1, ptr r1), (2, ptr r2), (3, ptr r3), (4, .int .i64 (254 - (k : Nat)))] ∧ m = [(0, ⟨r1, arr .u64 4 (wd a), 36⟩), (1, ⟨r2, arr .u64 4 (fun _ => 0), 36⟩), (2, ⟨r3, arr .u64 4 (wd pw), 36⟩)] ∧ (k ≤ 255) ∧ (pw = a ^ (EE / 2 ^ (255 - k)) % PP)) [(1, ptr r1), (2, ptr r2), (3, ptr r3), (4, .int .i64 (254 - (0 : Nat)))] [(0, ⟨r1, arr .u64 4 (wd a), 36⟩), (1, ⟨r2, arr .u64 4 (fun _ => 0), 36⟩), (2, ⟨r3, arr .u64 4 (wd 1), 36⟩)] (255 - 0) ⟨rfl, rfl, rfl, rfl, trivial⟩ ⟨rfl, rfl, rfl, trivial⟩ ⟨0, 1, rfl, rfl, rfl, by omega, inv_first a⟩ ?_
  rintro kk E m ⟨k, pw, rfl, rfl, rfl, hf0_0, hf0_1⟩
  have hpw : pw < 2 ^ 256 := by have := Nat.mod_lt (a ^ (EE / 2 ^ (255 - k))) (show 0 < PP by decide); omega
  have hq := Nat.mod_lt (pw * pw) (show 0 < PP by decide)
  refine e_seq ?_
  refine e_seq ?_
  refine e_plain ?_
  refine e_move rfl rfl ?_
  refine e_ge rfl rfl rfl ?_
  refine e_nil ?_
  refine e_cond rfl ?_ ?_
  · intro hc0
    have hc0 := of_decide_eq_true hc0
    refine e_skip ?_
    refine e_seq ?_
    refine e_block ?_
    refine e_seq ?_
    refine e_plain ?_
    refine e_loadA (i := 2) und36 rfl siz36 rfl rfl (arr_size _ _ _) rfl ⟨[], trivial⟩ ?_
    refine e_loadA (i := 2) und36 rfl siz36 rfl rfl (arr_size _ _ _) rfl ⟨[], trivial⟩ ?_
    refine e_call rfl ent36 (product_fn _ _ (by omega) (by omega)) rfl rfl ?_
    refine e_storeA (i := 2) siz36 rfl rfl (arr_size _ _ _) arr_one rfl (arr_sz _ _ _ _ _) (.inl rfl) ?_
    refine e_nil ?_
    rcases (show (k = 252 ∨ k = 250) ∨ ¬ (k = 252 ∨ k = 250) by omega) with (h252 | h250) | hno
    · skip
      refine e_seq ?_
      refine e_plain ?_
      refine e_move rfl rfl ?_
      refine e_ne rfl rfl rfl ?_
      refine e_as (congrArg Value.bool (decide_eq_false (by omega))) ?_
      refine e_move rfl rfl ?_
      refine e_no rfl rfl (by decide) rfl ?_
      refine e_no rfl rfl (by decide) rfl ?_
      refine e_pickF rfl rfl rfl rfl ?_
      refine e_nil ?_
      refine e_cond rfl ?_ ?_
      · intro hc1
        cases hc1
      · intro hc1
        refine e_skip ?_
        refine e_plain ?_
        refine e_move rfl rfl ?_
        refine e_sub_z (q := 1) rfl rfl rfl (by omega) (by omega) ?_
        refine e_assign rfl rfl ?_
        refine e_nil ?_
        refine ⟨_, [(1, ptr r1), (2, ptr r2), (3, ptr r3), (4, .int .i64 (254 - ((k + 1) : Nat)))], [(0, ⟨r1, arr .u64 4 (wd a), 36⟩), (1, ⟨r2, arr .u64 4 (fun _ => 0), 36⟩), (2, ⟨r3, arr .u64 4 (wd _), 36⟩)], ?_, ⟨rfl, rfl, rfl, congrArg (fun z => some (Value.int .i64 z)) (show (254 - (k : Int) - 1) = 254 - ((k + 1 : Nat) : Int) by omega), trivial⟩, ⟨rfl, rfl, rfl, trivial⟩, k + 1, _, rfl, rfl, rfl, by omega, inv_skip a k pw (by omega) (.inl h252) hf0_1⟩
        omega
    · skip
      refine e_seq ?_
      refine e_plain ?_
      refine e_move rfl rfl ?_
      refine e_ne rfl rfl rfl ?_
      refine e_as (congrArg Value.bool (decide_eq_true (by omega))) ?_
      refine e_move rfl rfl ?_
      refine e_yes rfl rfl rfl ?_
      refine e_move rfl rfl ?_
      refine e_yes rfl rfl rfl ?_
      refine e_ne rfl rfl rfl ?_
      refine e_as (congrArg Value.bool (decide_eq_false (by omega))) ?_
      refine e_pickT rfl rfl rfl rfl ?_
      refine e_nil ?_
      refine e_cond rfl ?_ ?_
      · intro hc1
        cases hc1
      · intro hc1
        refine e_skip ?_
        refine e_plain ?_
        refine e_move rfl rfl ?_
        refine e_sub_z (q := 1) rfl rfl rfl (by omega) (by omega) ?_
        refine e_assign rfl rfl ?_
        refine e_nil ?_
        refine ⟨_, [(1, ptr r1), (2, ptr r2), (3, ptr r3), (4, .int .i64 (254 - ((k + 1) : Nat)))], [(0, ⟨r1, arr .u64 4 (wd a), 36⟩), (1, ⟨r2, arr .u64 4 (fun _ => 0), 36⟩), (2, ⟨r3, arr .u64 4 (wd _), 36⟩)], ?_, ⟨rfl, rfl, rfl, congrArg (fun z => some (Value.int .i64 z)) (show (254 - (k : Int) - 1) = 254 - ((k + 1 : Nat) : Int) by omega), trivial⟩, ⟨rfl, rfl, rfl, trivial⟩, k + 1, _, rfl, rfl, rfl, by omega, inv_skip a k pw (by omega) (.inr h250) hf0_1⟩
        omega
    · skip
      refine e_seq ?_
      refine e_plain ?_
      refine e_move rfl rfl ?_
      refine e_ne rfl rfl rfl ?_
      refine e_as (congrArg Value.bool (decide_eq_true (by omega))) ?_
      refine e_move rfl rfl ?_
      refine e_yes rfl rfl rfl ?_
      refine e_move rfl rfl ?_
      refine e_yes rfl rfl rfl ?_
      refine e_ne rfl rfl rfl ?_
      refine e_as (congrArg Value.bool (decide_eq_true (by omega))) ?_
      refine e_pickT rfl rfl rfl rfl ?_
      refine e_nil ?_
      refine e_cond rfl ?_ ?_
      · intro hc1
        refine e_plain ?_
        refine e_loadA (i := 2) und36 rfl siz36 rfl rfl (arr_size _ _ _) rfl ⟨[], trivial⟩ ?_
        refine e_loadA (i := 0) und36 rfl siz36 rfl rfl (arr_size _ _ _) rfl ⟨[], trivial⟩ ?_
        refine e_call rfl ent36 (product_fn _ _ (by omega) (by omega)) rfl rfl ?_
        refine e_storeA (i := 2) siz36 rfl rfl (arr_size _ _ _) arr_one rfl (arr_sz _ _ _ _ _) (.inl rfl) ?_
        refine e_nil ?_
        refine e_plain ?_
        refine e_move rfl rfl ?_
        refine e_sub_z (q := 1) rfl rfl rfl (by omega) (by omega) ?_
        refine e_assign rfl rfl ?_
        refine e_nil ?_
        refine ⟨_, [(1, ptr r1), (2, ptr r2), (3, ptr r3), (4, .int .i64 (254 - ((k + 1) : Nat)))], [(0, ⟨r1, arr .u64 4 (wd a), 36⟩), (1, ⟨r2, arr .u64 4 (fun _ => 0), 36⟩), (2, ⟨r3, arr .u64 4 (wd _), 36⟩)], ?_, ⟨rfl, rfl, rfl, congrArg (fun z => some (Value.int .i64 z)) (show (254 - (k : Int) - 1) = 254 - ((k + 1 : Nat) : Int) by omega), trivial⟩, ⟨rfl, rfl, rfl, trivial⟩, k + 1, _, rfl, rfl, rfl, by omega, inv_take a k pw (by omega) hno hf0_1⟩
        omega
      · intro hc1
        cases hc1
  · intro hc0
    have hc0 := of_decide_eq_false hc0
    have hk : k = 255 := by omega
    subst hk
    refine e_exit ?_
    refine e_seq ?_
    refine e_plain ?_
    refine e_loadA (i := 2) und36 rfl siz36 rfl rfl (arr_size _ _ _) rfl ⟨[], trivial⟩ ?_
    refine e_storeA (i := 1) siz36 rfl rfl (arr_size _ _ _) arr_one rfl (arr_sz _ _ _ _ _) (.inl rfl) ?_
    refine e_nil ?_
    refine e_ret ?_
    rw [inv_last] at hf0_1
    rw [← hf0_1]
    exact ⟨_, rfl, .cell (i := 1) rfl rfl und36 rfl siz36 (arr_size _ _ _)⟩

end Go.Proofs.Ythhcgeoldjmpaaa
