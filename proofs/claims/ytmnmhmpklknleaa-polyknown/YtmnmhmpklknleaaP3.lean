/-
  Walks, written by a program of ours off the loaded functions.
-/
import Derived.Test.YtmnmhmpklknleaaP2
namespace Go.Proofs.Ytmnmhmpklknleaa
open Go Go.RowKit


theorem ent26 : enters Try.prog 26 = true := by kernel_rfl

variable {G : Mem}

set_option maxHeartbeats 400000 in
theorem times5_fn (x y : Nat) (hx : x < 2 ^ 130) (hy : y < 2 ^ 130) : Fn Try.prog G 35 #[p5 x, p5 y] (p5 (x * y % QQ)) := by
  have hvy : v26 (d26 y) 5 = y := (v26_d26 y 5).trans (Nat.mod_eq_of_lt hy)
  refine fn1 (n := 43) Try.func35 rfl rfl (by simp) (argE [p5 x, p5 y] 0) (argE_ok _) ?_
  refine e_seq ?_
  refine e_plain ?_
  refine e_box 0 rfl rfl fun r1 => ?_
  refine e_box 1 rfl rfl fun r2 => ?_
  refine e_alloc 2 zer54 rfl fun r3 => ?_
  refine e_nil ?_
  refine e_seq ?_
  refine e_plain ?_
  refine e_alloc 3 zer54 rfl fun r4 => ?_
  refine e_nil ?_
  refine e_seq ?_
  refine e_seq ?_
  refine e_plain ?_
  refine e_loadA (i := 0) und54 rfl siz54 rfl rfl (arr_size _ _ _) rfl ⟨[], trivial⟩ ?_
  refine e_move rfl rfl ?_
  refine e_nil ?_
  refine e_block ?_
  refine e_loop (fun kk E m => ∃ (i : Nat) (s : Nat → Nat), kk = 5 - i ∧ E = [(2, ptr r1), (3, ptr r2), (4, ptr r3), (5, ptr r4), (11, p5 x), (12, ii i)] ∧ m = [(0, some ⟨r1, arr .u64 5 (d26 x), 54⟩), (1, some ⟨r2, arr .u64 5 (d26 y), 54⟩), (2, some ⟨r3, arr .u64 5 (fun _ => 0), 54⟩), (3, some ⟨r4, arr .u64 5 s, 54⟩)] ∧ (i ≤ 5) ∧ (∀ t, t < 5 → s t ≤ 5 * i * 22517997465763845) ∧ (v26 s 5 % QQ = (v26 (d26 x) i * y + d26 x i * v26 (d26 y) 0 * 2 ^ (26 * i)) % QQ)) [(2, ptr r1), (3, ptr r2), (4, ptr r3), (5, ptr r4), (11, p5 x), (12, ii 0)] [(0, some ⟨r1, arr .u64 5 (d26 x), 54⟩), (1, some ⟨r2, arr .u64 5 (d26 y), 54⟩), (2, some ⟨r3, arr .u64 5 (fun _ => 0), 54⟩), (3, some ⟨r4, arr .u64 5 (fun _ => 0), 54⟩)] (5 - 0) ⟨rfl, rfl, rfl, rfl, rfl, rfl, trivial⟩ ⟨rfl, rfl, rfl, rfl, trivial⟩ ⟨0, fun _ => 0, rfl, rfl, rfl, by omega, fun t _ => Nat.zero_le _, by simp [v26]⟩ ?_
  rintro kk E m ⟨i, s, rfl, rfl, rfl, hf0_0, hf0_1, hf0_2⟩
  refine e_seq ?_
  refine e_plain ?_
  refine e_lt rfl rfl rfl ?_
  refine e_nil ?_
  refine e_seq ?_
  refine e_cond rfl ?_ ?_
  · intro hc0
    have hc0 := of_decide_eq_true hc0
    refine e_skip ?_
    refine e_seq ?_
    refine e_block ?_
    refine e_seq ?_
    refine e_plain ?_
    refine e_move rfl rfl ?_
    refine e_idx und54 und23 siz23 rfl rfl (by omega) rfl ?_
    refine e_assign rfl rfl ?_
    refine e_assign rfl rfl ?_
    refine e_nil ?_
    refine e_seq ?_
    refine e_plain ?_
    refine e_loadA (i := 1) und54 rfl siz54 rfl rfl (arr_size _ _ _) rfl ⟨[], trivial⟩ ?_
    refine e_move rfl rfl ?_
    refine e_nil ?_
    refine e_block ?_
    refine e_loop (fun kk E m => ∃ (j : Nat) (s2 : Nat → Nat), kk = 5 - j ∧ E = [(2, ptr r1), (3, ptr r2), (4, ptr r3), (5, ptr r4), (11, p5 x), (12, ii i), (6, ii i), (7, u (d26 x i)), (16, p5 y), (17, ii j)] ∧ m = [(0, some ⟨r1, arr .u64 5 (d26 x), 54⟩), (1, some ⟨r2, arr .u64 5 (d26 y), 54⟩), (2, some ⟨r3, arr .u64 5 (fun _ => 0), 54⟩), (3, some ⟨r4, arr .u64 5 s2, 54⟩)] ∧ (j ≤ 5) ∧ (∀ t, t < 5 → s2 t ≤ (5 * i + j) * 22517997465763845) ∧ (v26 s2 5 % QQ = (v26 (d26 x) i * y + d26 x i * v26 (d26 y) j * 2 ^ (26 * i)) % QQ)) [(2, ptr r1), (3, ptr r2), (4, ptr r3), (5, ptr r4), (11, p5 x), (12, ii i), (6, ii i), (7, u (d26 x i)), (16, p5 y), (17, ii 0)] [(0, some ⟨r1, arr .u64 5 (d26 x), 54⟩), (1, some ⟨r2, arr .u64 5 (d26 y), 54⟩), (2, some ⟨r3, arr .u64 5 (fun _ => 0), 54⟩), (3, some ⟨r4, arr .u64 5 s, 54⟩)] (5 - 0) ⟨rfl, rfl, rfl, rfl, rfl, rfl, rfl, rfl, rfl, rfl, trivial⟩ ⟨rfl, rfl, rfl, rfl, trivial⟩ ⟨0, s, rfl, rfl, rfl, by omega, hf0_1, hf0_2⟩ ?_
    rintro kk E m ⟨j, s2, rfl, rfl, rfl, hf1_0, hf1_1, hf1_2⟩
    have hde := tm_le (x := x) (y := y) (i := i) (j := j)
    have hsr := hf1_1 ((i + j) % 5) (Nat.mod_lt _ (by decide))
    refine e_seq ?_
    refine e_plain ?_
    refine e_lt rfl rfl rfl ?_
    refine e_nil ?_
    refine e_seq ?_
    refine e_cond rfl ?_ ?_
    · intro hc1
      have hc1 := of_decide_eq_true hc1
      refine e_skip ?_
      refine e_seq ?_
      refine e_block ?_
      refine e_seq ?_
      refine e_plain ?_
      refine e_move rfl rfl ?_
      refine e_idx und54 und23 siz23 rfl rfl (by omega) rfl ?_
      refine e_assign rfl rfl ?_
      refine e_assign rfl rfl ?_
      refine e_nil ?_
      refine e_seq ?_
      refine e_plain ?_
      refine e_move rfl rfl ?_
      refine e_move rfl rfl ?_
      refine e_mul_u rfl rfl rfl  ?_
      refine e_as (congrArg u (Nat.mod_eq_of_lt (show d26 x i * d26 y j < 18446744073709551616 by omega))) ?_
      refine e_assign rfl rfl ?_
      refine e_nil ?_
      refine e_seq ?_
      refine e_seq ?_
      refine e_plain ?_
      refine e_move rfl rfl ?_
      refine e_move rfl rfl ?_
      refine e_add_i rfl rfl rfl (by omega) ?_
      refine e_ge rfl rfl rfl ?_
      refine e_nil ?_
      refine e_cond rfl ?_ ?_
      · intro hc2
        have hc2 := of_decide_eq_true hc2
        refine e_plain ?_
        refine e_move rfl rfl ?_
        refine e_mul_u (q := 5) rfl rfl rfl  ?_
        refine e_as (congrArg u (Nat.mod_eq_of_lt (show d26 x i * d26 y j * 5 < 18446744073709551616 by omega))) ?_
        refine e_assign rfl rfl ?_
        refine e_nil ?_
        refine e_plain ?_
        refine e_move rfl rfl ?_
        refine e_move rfl rfl ?_
        refine e_add_i rfl rfl rfl (by omega) ?_
        refine e_rem_i (q := 5) rfl rfl rfl (by omega) ?_
        refine e_index0 und54 siz23 rfl rfl (by omega) rfl ?_
        refine e_load1 (i := 3) und23 rfl rfl rfl (arr_get (by omega)) rfl ⟨[], trivial⟩ ?_
        refine e_move rfl rfl ?_
        refine e_add_u rfl rfl rfl  ?_
        refine e_as (congrArg u (Nat.mod_eq_of_lt (show s2 ((i + j) % 5) + _ < 18446744073709551616 by omega))) ?_
        refine e_index0 und54 siz23 rfl rfl (by omega) rfl ?_
        refine e_storeN (i := 3) siz23 rfl rfl rfl (by omega) (.inl rfl) ?_
        refine e_nil ?_
        refine e_plain ?_
        refine e_add_i (q := 1) rfl rfl rfl (by omega) ?_
        refine e_move rfl rfl ?_
        refine e_nil ?_
        refine ⟨_, [(2, ptr r1), (3, ptr r2), (4, ptr r3), (5, ptr r4), (11, p5 x), (12, ii i), (6, ii i), (7, u (d26 x i)), (16, p5 y), (17, ii (j + 1))], [(0, some ⟨r1, arr .u64 5 (d26 x), 54⟩), (1, some ⟨r2, arr .u64 5 (d26 y), 54⟩), (2, some ⟨r3, arr .u64 5 (fun _ => 0), 54⟩), (3, some ⟨r4, arr .u64 5 (upd s2 ((i + j) % 5) _), 54⟩)], ?_, ⟨rfl, rfl, rfl, rfl, rfl, rfl, rfl, rfl, rfl, rfl, trivial⟩, ⟨rfl, rfl, rfl, rfl, trivial⟩, j + 1, upd s2 ((i + j) % 5) _, rfl, rfl, rfl, by omega, tm_bnd (Nat.mod_lt _ (by decide)) hf1_1 (by omega), tm_step (by omega) (by omega) hf1_2 (by first | rw [if_pos (by omega)] | rw [if_neg (by omega)])⟩
        omega
      · intro hc2
        have hc2 := of_decide_eq_false hc2
        refine e_skip ?_
        refine e_plain ?_
        refine e_move rfl rfl ?_
        refine e_move rfl rfl ?_
        refine e_add_i rfl rfl rfl (by omega) ?_
        refine e_rem_i (q := 5) rfl rfl rfl (by omega) ?_
        refine e_index0 und54 siz23 rfl rfl (by omega) rfl ?_
        refine e_load1 (i := 3) und23 rfl rfl rfl (arr_get (by omega)) rfl ⟨[], trivial⟩ ?_
        refine e_move rfl rfl ?_
        refine e_add_u rfl rfl rfl  ?_
        refine e_as (congrArg u (Nat.mod_eq_of_lt (show s2 ((i + j) % 5) + _ < 18446744073709551616 by omega))) ?_
        refine e_index0 und54 siz23 rfl rfl (by omega) rfl ?_
        refine e_storeN (i := 3) siz23 rfl rfl rfl (by omega) (.inl rfl) ?_
        refine e_nil ?_
        refine e_plain ?_
        refine e_add_i (q := 1) rfl rfl rfl (by omega) ?_
        refine e_move rfl rfl ?_
        refine e_nil ?_
        refine ⟨_, [(2, ptr r1), (3, ptr r2), (4, ptr r3), (5, ptr r4), (11, p5 x), (12, ii i), (6, ii i), (7, u (d26 x i)), (16, p5 y), (17, ii (j + 1))], [(0, some ⟨r1, arr .u64 5 (d26 x), 54⟩), (1, some ⟨r2, arr .u64 5 (d26 y), 54⟩), (2, some ⟨r3, arr .u64 5 (fun _ => 0), 54⟩), (3, some ⟨r4, arr .u64 5 (upd s2 ((i + j) % 5) _), 54⟩)], ?_, ⟨rfl, rfl, rfl, rfl, rfl, rfl, rfl, rfl, rfl, rfl, trivial⟩, ⟨rfl, rfl, rfl, rfl, trivial⟩, j + 1, upd s2 ((i + j) % 5) _, rfl, rfl, rfl, by omega, tm_bnd (Nat.mod_lt _ (by decide)) hf1_1 (by omega), tm_step (by omega) (by omega) hf1_2 (by first | rw [if_pos (by omega)] | rw [if_neg (by omega)])⟩
        omega
    · intro hc1
      have hc1 := of_decide_eq_false hc1
      have hj5 : j = 5 := by omega
      subst hj5
      refine e_exit ?_
      refine e_plain ?_
      refine e_add_i (q := 1) rfl rfl rfl (by omega) ?_
      refine e_move rfl rfl ?_
      refine e_nil ?_
      refine ⟨_, [(2, ptr r1), (3, ptr r2), (4, ptr r3), (5, ptr r4), (11, p5 x), (12, ii (i + 1))], [(0, some ⟨r1, arr .u64 5 (d26 x), 54⟩), (1, some ⟨r2, arr .u64 5 (d26 y), 54⟩), (2, some ⟨r3, arr .u64 5 (fun _ => 0), 54⟩), (3, some ⟨r4, arr .u64 5 s2, 54⟩)], ?_, ⟨rfl, rfl, rfl, rfl, rfl, rfl, trivial⟩, ⟨rfl, rfl, rfl, rfl, trivial⟩, i + 1, s2, rfl, rfl, rfl, by omega, hf1_1, hf1_2.trans (congrArg (fun z => z % QQ) (tm_row hvy))⟩
      omega
  · intro hc0
    have hc0 := of_decide_eq_false hc0
    have hi5 : i = 5 := by omega
    subst hi5
    refine e_exit ?_
    refine e_seq ?_
    refine e_plain ?_
    refine e_loadA (i := 3) und54 rfl siz54 rfl rfl (arr_size _ _ _) rfl ⟨[], trivial⟩ ?_
    refine e_call rfl ent26 (carried_fn s (fun t ht => by have := hf0_1 t ht; omega)) rfl rfl ?_
    refine e_as (congrArg p5 (hf0_2.trans (congrArg (fun z => z % QQ) (tm_end hx)))) ?_
    refine e_storeA (i := 2) siz54 rfl rfl (arr_size _ _ _) arr_one rfl (arr_sz _ _ _ _ _) (.inl rfl) ?_
    refine e_nil ?_
    refine e_ret ?_
    exact ⟨_, rfl, .cell (i := 2) rfl rfl und54 rfl siz54 (arr_size _ _ _)⟩

end Go.Proofs.Ytmnmhmpklknleaa
