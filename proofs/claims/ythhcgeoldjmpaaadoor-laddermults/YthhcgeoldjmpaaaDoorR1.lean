/-
  Walks, written by a program of ours off the loaded functions.
-/
import Derived.Test.YthhcgeoldjmpaaaDoorV2
import Derived.Test.YthhcgeoldjmpaaaDoorNum4
namespace Go.Proofs.YthhcgeoldjmpaaaDoor
open Go Go.RowKit


theorem ent46 : enters Tryd.prog 46 = true := by kernel_rfl
theorem siz41 : (Tryd.prog.info? 41).map (·.size) = some 16 := by kernel_rfl
theorem und41 : Tryd.prog.underlying 41 = some (.array 16 29) := by kernel_rfl
theorem zer41 : (Tryd.prog.info? 41).bind (·.zero) = some (.agg (arr .u64 16 fun _ => 0)) := by kernel_rfl

variable {G : Mem}

set_option maxHeartbeats 400000 in
theorem of_fn (a : Nat) : Fn Tryd.prog G 16 #[fe a] (dg a) := by
  refine fn1 (n := 21) Tryd.func16 rfl rfl (by simp) (argE [fe a] 0) (argE_ok _) ?_
  refine e_seq ?_
  refine e_plain ?_
  refine e_box 0 rfl rfl fun r1 => ?_
  refine e_alloc 1 zer41 rfl fun r2 => ?_
  refine e_nil ?_
  refine e_seq ?_
  refine e_plain ?_
  refine e_alloc 2 zer41 rfl fun r3 => ?_
  refine e_nil ?_
  refine e_seq ?_
  refine e_seq ?_
  refine e_plain ?_
  refine e_move rfl rfl ?_
  refine e_nil ?_
  refine e_block ?_
  refine e_loop (fun kk E m => ∃ (k : Nat) (s : Nat → Nat), kk = 16 - k ∧ E = [(1, ptr r1), (2, ptr r2), (3, ptr r3), (5, ii k)] ∧ m = [(0, ⟨r1, arr .u64 4 (wd a), 31⟩), (1, ⟨r2, arr .u64 16 (fun _ => 0), 41⟩), (2, ⟨r3, arr .u64 16 s, 41⟩)] ∧ (k ≤ 16) ∧ (∀ j, j < k → s j = d16 a j)) [(1, ptr r1), (2, ptr r2), (3, ptr r3), (5, ii 0)] [(0, ⟨r1, arr .u64 4 (wd a), 31⟩), (1, ⟨r2, arr .u64 16 (fun _ => 0), 41⟩), (2, ⟨r3, arr .u64 16 (fun _ => 0), 41⟩)] (16 - 0) ⟨rfl, rfl, rfl, rfl, trivial⟩ ⟨rfl, rfl, rfl, trivial⟩ ⟨0, fun _ => 0, rfl, rfl, rfl, by omega, fun j hj => absurd hj (Nat.not_lt_zero j)⟩ ?_
  rintro kk E m ⟨k, s, rfl, rfl, rfl, hf0_0, hf0_1⟩
  refine e_seq ?_
  refine e_plain ?_
  refine e_lt rfl rfl rfl ?_
  refine e_nil ?_
  refine e_seq ?_
  refine e_cond rfl ?_ ?_
  · intro hc0
    have hc0 := of_decide_eq_true hc0
    refine e_skip ?_
    refine e_seq ?_
    refine e_block ?_
    refine e_seq ?_
    refine e_plain ?_
    refine e_move rfl rfl ?_
    refine e_assign rfl rfl ?_
    refine e_nil ?_
    refine e_plain ?_
    refine e_move rfl rfl ?_
    refine e_move rfl rfl ?_
    refine e_quo_i (q := 4) rfl rfl rfl (by omega) (by omega) ?_
    refine e_index0 und31 siz29 rfl rfl (by omega) rfl ?_
    refine e_load1 (i := 0) und29 rfl rfl rfl (arr_get (by omega)) rfl ⟨[], trivial⟩ ?_
    refine e_move rfl rfl ?_
    refine e_rem_i (q := 4) rfl rfl rfl (by omega) ?_
    refine e_mul_i (p := 16) rfl rfl rfl (by omega) ?_
    refine e_shr_u rfl rfl rfl (by omega) ?_
    refine e_rem_u (q := 65536) rfl rfl rfl (by omega) ?_
    refine e_index0 und41 siz29 rfl rfl (by omega) rfl ?_
    refine e_storeN (i := 2) siz29 rfl rfl rfl (by omega) (.inl rfl) ?_
    refine e_nil ?_
    refine e_plain ?_
    refine e_add_i (q := 1) rfl rfl rfl (by omega) ?_
    refine e_move rfl rfl ?_
    refine e_nil ?_
    refine ⟨_, [(1, ptr r1), (2, ptr r2), (3, ptr r3), (5, ii (k + 1))], [(0, ⟨r1, arr .u64 4 (wd a), 31⟩), (1, ⟨r2, arr .u64 16 (fun _ => 0), 41⟩), (2, ⟨r3, arr .u64 16 (upd s k _), 41⟩)], ?_, ⟨rfl, rfl, rfl, rfl, trivial⟩, ⟨rfl, rfl, rfl, trivial⟩, k + 1, upd s k _, rfl, rfl, rfl, by omega, upd_lt hf0_1 (of_word a k)⟩
    omega
  · intro hc0
    have hc0 := of_decide_eq_false hc0
    refine e_exit ?_
    refine e_seq ?_
    refine e_plain ?_
    refine e_loadA (i := 2) und41 rfl siz41 rfl rfl (arr_size _ _ _) rfl ⟨[], trivial⟩ ?_
    refine e_storeA (i := 1) siz41 rfl rfl (arr_size _ _ _) arr_one rfl (arr_sz _ _ _ _ _) (.inl rfl) ?_
    refine e_nil ?_
    refine e_ret ?_
    have hk : k = 16 := by omega
    subst hk
    rw [dg, ← arr_congr hf0_1]
    exact ⟨_, rfl, .cell (i := 1) rfl rfl und41 rfl siz41 (arr_size _ _ _)⟩

set_option maxHeartbeats 400000 in
theorem back_fn (f : Nat → Nat) (hf : ∀ j, j < 16 → f j < 65536) : Fn Tryd.prog G 19 #[.agg (arr .u64 16 f)] (fe (vs f 16)) := by
  refine fn1 (n := 24) Tryd.func19 rfl rfl (by simp) (argE [.agg (arr .u64 16 f)] 0) (argE_ok _) ?_
  refine e_seq ?_
  refine e_plain ?_
  refine e_box 0 rfl rfl fun r1 => ?_
  refine e_alloc 1 zer31 rfl fun r2 => ?_
  refine e_nil ?_
  refine e_seq ?_
  refine e_plain ?_
  refine e_alloc 2 zer31 rfl fun r3 => ?_
  refine e_nil ?_
  refine e_seq ?_
  refine e_seq ?_
  refine e_plain ?_
  refine e_loadA (i := 0) und41 rfl siz41 rfl rfl (arr_size _ _ _) rfl ⟨[], trivial⟩ ?_
  refine e_move rfl rfl ?_
  refine e_nil ?_
  refine e_block ?_
  refine e_loop (fun kk E m => ∃ (k : Nat) (s : Nat → Nat), kk = 16 - k ∧ E = [(2, ptr r2), (3, ptr r3), (6, .agg (arr .u64 16 f)), (7, ii k)] ∧ m = [(0, ⟨r1, arr .u64 16 f, 41⟩), (1, ⟨r2, arr .u64 4 (fun _ => 0), 31⟩), (2, ⟨r3, arr .u64 4 s, 31⟩)] ∧ (k ≤ 16) ∧ (∀ j, j < 4 → s j = wd (vs f k) j)) [(2, ptr r2), (3, ptr r3), (6, .agg (arr .u64 16 f)), (7, ii 0)] [(0, ⟨r1, arr .u64 16 f, 41⟩), (1, ⟨r2, arr .u64 4 (fun _ => 0), 31⟩), (2, ⟨r3, arr .u64 4 (fun _ => 0), 31⟩)] (16 - 0) ⟨rfl, rfl, rfl, rfl, trivial⟩ ⟨rfl, rfl, rfl, trivial⟩ ⟨0, fun _ => 0, rfl, rfl, rfl, by omega, fun j _ => by simp [vs, wd]⟩ ?_
  rintro kk E m ⟨k, s, rfl, rfl, rfl, hf0_0, hf0_1⟩
  refine e_seq ?_
  refine e_plain ?_
  refine e_lt rfl rfl rfl ?_
  refine e_nil ?_
  refine e_seq ?_
  refine e_cond rfl ?_ ?_
  · intro hc0
    have hc0 := of_decide_eq_true hc0
    refine e_skip ?_
    refine e_seq ?_
    refine e_block ?_
    refine e_seq ?_
    refine e_plain ?_
    refine e_move rfl rfl ?_
    refine e_idx und41 und29 siz29 rfl rfl (by omega) rfl ?_
    refine e_assign rfl rfl ?_
    refine e_assign rfl rfl ?_
    refine e_nil ?_
    refine e_draw mixed (by kernel_rfl) ?_
    refine e_move rfl rfl ?_
    refine e_quo_i (q := 4) rfl rfl rfl (by omega) (by omega) ?_
    refine e_index0 und31 siz29 rfl rfl (by omega) rfl ?_
    refine e_load1 (i := 2) und29 rfl rfl rfl (arr_get (by omega)) rfl ⟨[], trivial⟩ ?_
    refine e_move rfl rfl ?_
    refine e_move rfl rfl ?_
    refine e_rem_i (q := 4) rfl rfl rfl (by omega) ?_
    refine e_mul_i (p := 16) rfl rfl rfl (by omega) ?_
    refine e_shl_u rfl rfl rfl (by omega) ?_
    refine e_or_u rfl rfl rfl  ?_
    refine e_index0 und31 siz29 rfl rfl (by omega) rfl ?_
    refine e_storeN (i := 2) siz29 rfl rfl rfl (by omega) (.inl rfl) ?_
    refine e_nil ?_
    refine e_plain ?_
    refine e_add_i (q := 1) rfl rfl rfl (by omega) ?_
    refine e_move rfl rfl ?_
    refine e_nil ?_
    refine ⟨_, [(2, ptr r2), (3, ptr r3), (6, .agg (arr .u64 16 f)), (7, ii (k + 1))], [(0, ⟨r1, arr .u64 16 f, 41⟩), (1, ⟨r2, arr .u64 4 (fun _ => 0), 31⟩), (2, ⟨r3, arr .u64 4 (upd s (k / 4) _), 31⟩)], ?_, ⟨rfl, rfl, rfl, rfl, trivial⟩, ⟨rfl, rfl, rfl, trivial⟩, k + 1, upd s (k / 4) _, rfl, rfl, rfl, by omega, back_step f k s (by omega) hf hf0_1⟩
    omega
  · intro hc0
    have hc0 := of_decide_eq_false hc0
    refine e_exit ?_
    refine e_seq ?_
    refine e_plain ?_
    refine e_loadA (i := 2) und31 rfl siz31 rfl rfl (arr_size _ _ _) rfl ⟨[], trivial⟩ ?_
    refine e_storeA (i := 1) siz31 rfl rfl (arr_size _ _ _) arr_one rfl (arr_sz _ _ _ _ _) (.inl rfl) ?_
    refine e_nil ?_
    refine e_ret ?_
    have hk : k = 16 := by omega
    subst hk
    rw [fe_of hf0_1]
    exact ⟨_, rfl, .cell (i := 1) rfl rfl und31 rfl siz31 (arr_size _ _ _)⟩

set_option maxHeartbeats 400000 in
theorem notBelow_fn (f : Nat → Nat) (hf : ∀ j, j < 16 → f j < 65536) : Fn Tryd.prog [⟨0, arr .u64 16 (d16 PP), 41⟩] 46 #[.agg (arr .u64 16 f)] (.bool (decide (PP ≤ vs f 16))) := by
  refine fn1 (n := 22) Tryd.func46 rfl rfl (by simp) (argE [.agg (arr .u64 16 f)] 0) (argE_ok _) ?_
  refine e_seq ?_
  refine e_plain ?_
  refine e_box 0 rfl rfl fun r1 => ?_
  refine e_assign rfl rfl ?_
  refine e_nil ?_
  refine e_seq ?_
  refine e_seq ?_
  refine e_plain ?_
  refine e_assign rfl rfl ?_
  refine e_nil ?_
  refine e_block ?_
  refine e_loop (fun kk E m => ∃ (n : Nat), kk = 2 * n ∧ E = [(1, ptr r1), (3, .int .i64 (((n : Nat) : Int) - 1))] ∧ m = [(0, ⟨r1, arr .u64 16 f, 41⟩)] ∧ (n ≤ 16) ∧ (∀ j, n ≤ j → j < 16 → f j = d16 PP j)) [(1, ptr r1), (3, .int .i64 (((16 : Nat) : Int) - 1))] [(0, ⟨r1, arr .u64 16 f, 41⟩)] (2 * 16) ⟨rfl, rfl, trivial⟩ ⟨rfl, trivial⟩ ⟨16, rfl, rfl, rfl, by omega, fun j h1 h2 => absurd h1 (by omega)⟩ ?_
  rintro kk E m ⟨n, rfl, rfl, rfl, hf0_0, hf0_1⟩
  refine e_seq ?_
  refine e_seq ?_
  refine e_plain ?_
  refine e_move rfl rfl ?_
  refine e_ge rfl rfl rfl ?_
  refine e_nil ?_
  refine e_cond rfl ?_ ?_
  · intro hc0
    have hc0 := of_decide_eq_true hc0
    obtain ⟨i, rfl⟩ : ∃ i, n = i + 1 := ⟨n - 1, by omega⟩
    refine e_skip ?_
    refine e_seq ?_
    refine e_block ?_
    refine e_seq ?_
    refine e_draw mixed (by kernel_rfl) ?_
    refine e_move rfl rfl ?_
    refine e_as (congrArg (Value.int .i64) (show ((i + 1 : Nat) : Int) - 1 = ((i : Nat) : Int) by omega)) ?_
    refine e_index0 und41 siz29 rfl rfl (by omega) rfl ?_
    refine e_load1 (i := 0) und29 rfl rfl rfl (arr_get (by omega)) rfl ⟨[], trivial⟩ ?_
    refine e_move rfl rfl ?_
    refine e_as (congrArg (Value.int .i64) (show ((i + 1 : Nat) : Int) - 1 = ((i : Nat) : Int) by omega)) ?_
    refine e_index0 und41 siz29 rfl rfl (by omega) rfl ?_
    refine e_load1g (i := 0) und29 rfl rfl rfl (arr_get (by omega)) rfl ?_
    refine e_ne rfl rfl rfl ?_
    refine e_nil ?_
    refine e_cond rfl ?_ ?_
    · intro hc1
      have hc1 := of_decide_eq_true hc1
      rw [cmp_digit f i (by omega) hf hf0_1 (by omega)]
      refine e_seq ?_
      refine e_draw mixed (by kernel_rfl) ?_
      refine e_move rfl rfl ?_
      refine e_as (congrArg (Value.int .i64) (show ((i + 1 : Nat) : Int) - 1 = ((i : Nat) : Int) by omega)) ?_
      refine e_index0 und41 siz29 rfl rfl (by omega) rfl ?_
      refine e_load1 (i := 0) und29 rfl rfl rfl (arr_get (by omega)) rfl ⟨[], trivial⟩ ?_
      refine e_move rfl rfl ?_
      refine e_as (congrArg (Value.int .i64) (show ((i + 1 : Nat) : Int) - 1 = ((i : Nat) : Int) by omega)) ?_
      refine e_index0 und41 siz29 rfl rfl (by omega) rfl ?_
      refine e_load1g (i := 0) und29 rfl rfl rfl (arr_get (by omega)) rfl ?_
      refine e_gt rfl rfl rfl ?_
      refine e_assign rfl rfl ?_
      refine e_nil ?_
      refine e_ret ?_
      exact ⟨_, rfl, .tmp rfl⟩
    · intro hc1
      have hc1 := of_decide_eq_false hc1
      have heq : f i = d16 PP i := by omega
      refine e_skip ?_
      refine e_plain ?_
      refine e_move rfl rfl ?_
      refine e_sub_z (q := 1) rfl rfl rfl (by omega) (by omega) ?_
      refine e_assign rfl rfl ?_
      refine e_nil ?_
      refine ⟨_, [(1, ptr r1), (3, .int .i64 (((i : Nat) : Int) - 1))], [(0, ⟨r1, arr .u64 16 f, 41⟩)], ?_, ⟨rfl, congrArg (fun z => some (Value.int .i64 z)) (show ((i + 1 : Nat) : Int) - 1 - 1 = ((i : Nat) : Int) - 1 by omega), trivial⟩, ⟨rfl, trivial⟩, i, rfl, rfl, rfl, by omega, down_step hf0_1 heq⟩
      omega
  · intro hc0
    have hc0 := of_decide_eq_false hc0
    have hn0 : n = 0 := by omega
    subst hn0
    rw [cmp_all f hf0_1]
    refine e_exit ?_
    refine e_seq ?_
    refine e_plain ?_
    refine e_assign rfl rfl ?_
    refine e_nil ?_
    refine e_ret ?_
    exact ⟨_, rfl, .tmp rfl⟩

set_option maxHeartbeats 1000000 in
theorem carried_fn (f : Nat → Nat) (hf : ∀ j, j < 16 → f j < 2 ^ 48) : Fn Tryd.prog [⟨0, arr .u64 16 (d16 PP), 41⟩] 33 #[.agg (arr .u64 16 f)] (dg (vs f 16 % PP)) := by
  refine fn1 (n := 56) Tryd.func33 rfl rfl (by simp) (argE [.agg (arr .u64 16 f)] 0) (argE_ok _) ?_
  refine e_seq ?_
  refine e_plain ?_
  refine e_box 0 rfl rfl fun r1 => ?_
  refine e_alloc 1 zer41 rfl fun r2 => ?_
  refine e_nil ?_
  refine e_seq ?_
  refine e_seq ?_
  refine e_plain ?_
  refine e_move rfl rfl ?_
  refine e_nil ?_
  refine e_block ?_
  refine e_loop (fun kk E m => ∃ (k : Nat) (s : Nat → Nat), kk = 3 - k ∧ E = [(1, ptr r1), (2, ptr r2), (8, ii k)] ∧ m = [(0, ⟨r1, arr .u64 16 s, 41⟩), (1, ⟨r2, arr .u64 16 (fun _ => 0), 41⟩)] ∧ (k ≤ 3) ∧ (vs s 16 % PP = vs f 16 % PP) ∧ (vs s 16 < bnd k) ∧ (∀ j, j < 16 → s j < 2 ^ 48) ∧ (k = 3 → ∀ j, j < 16 → s j < 65536)) [(1, ptr r1), (2, ptr r2), (8, ii 0)] [(0, ⟨r1, arr .u64 16 f, 41⟩), (1, ⟨r2, arr .u64 16 (fun _ => 0), 41⟩)] (3 - 0) ⟨rfl, rfl, rfl, trivial⟩ ⟨rfl, rfl, trivial⟩ ⟨0, f, rfl, rfl, rfl, by omega, rfl, carried_start f hf, hf, fun h => absurd h (by decide)⟩ ?_
  rintro kk E m ⟨k, s, rfl, rfl, rfl, hf0_0, hf0_1, hf0_2, hf0_3, hf0_4⟩
  refine e_seq ?_
  refine e_plain ?_
  refine e_lt rfl rfl rfl ?_
  refine e_nil ?_
  refine e_seq ?_
  refine e_cond rfl ?_ ?_
  · intro hc0
    have hc0 := of_decide_eq_true hc0
    refine e_skip ?_
    refine e_seq ?_
    refine e_block ?_
    refine e_seq ?_
    refine e_plain ?_
    refine e_assign rfl rfl ?_
    refine e_nil ?_
    refine e_seq ?_
    refine e_seq ?_
    refine e_plain ?_
    refine e_move rfl rfl ?_
    refine e_nil ?_
    refine e_block ?_
    refine e_loop (fun kk E m => ∃ (j : Nat) (s2 : Nat → Nat) (c : Nat), kk = 16 - j ∧ E = [(1, ptr r1), (2, ptr r2), (8, ii k), (3, u c), (10, ii j)] ∧ m = [(0, ⟨r1, arr .u64 16 s2, 41⟩), (1, ⟨r2, arr .u64 16 (fun _ => 0), 41⟩)] ∧ (j ≤ 16) ∧ (∀ t, t < j → s2 t < 65536) ∧ (∀ t, j ≤ t → s2 t = s t) ∧ (vs s2 j + c * 2 ^ (16 * j) = vs s j) ∧ (c < 2 ^ 33)) [(1, ptr r1), (2, ptr r2), (8, ii k), (3, u 0), (10, ii 0)] [(0, ⟨r1, arr .u64 16 s, 41⟩), (1, ⟨r2, arr .u64 16 (fun _ => 0), 41⟩)] (16 - 0) ⟨rfl, rfl, rfl, rfl, rfl, trivial⟩ ⟨rfl, rfl, trivial⟩ ⟨0, s, 0, rfl, rfl, rfl, by omega, fun t ht => absurd ht (Nat.not_lt_zero t), fun t _ => rfl, by simp [vs], by decide⟩ ?_
    rintro kk E m ⟨j, s2, c, rfl, rfl, rfl, hf1_0, hf1_1, hf1_2, hf1_3, hf1_4⟩
    have hs2 : j < 16 → s2 j < 2 ^ 48 := fun h => by rw [hf1_2 j (Nat.le_refl j)]; exact hf0_3 j h
    refine e_seq ?_
    refine e_plain ?_
    refine e_lt rfl rfl rfl ?_
    refine e_nil ?_
    refine e_seq ?_
    refine e_cond rfl ?_ ?_
    · intro hc1
      have hc1 := of_decide_eq_true hc1
      have hs3 := hs2 (by omega)
      refine e_skip ?_
      refine e_seq ?_
      refine e_block ?_
      refine e_seq ?_
      refine e_plain ?_
      refine e_move rfl rfl ?_
      refine e_assign rfl rfl ?_
      refine e_nil ?_
      refine e_seq ?_
      refine e_plain ?_
      refine e_move rfl rfl ?_
      refine e_move rfl rfl ?_
      refine e_index0 und41 siz29 rfl rfl (by omega) rfl ?_
      refine e_load1 (i := 0) und29 rfl rfl rfl (arr_get (by omega)) rfl ⟨[], trivial⟩ ?_
      refine e_add_u rfl rfl rfl  ?_
      refine e_as (congrArg u (add_form c (s2 j) (by omega) (by omega))) ?_
      refine e_assign rfl rfl ?_
      refine e_nil ?_
      refine e_plain ?_
      refine e_move rfl rfl ?_
      refine e_move rfl rfl ?_
      refine e_rem_u (q := 65536) rfl rfl rfl (by omega) ?_
      refine e_move rfl rfl ?_
      refine e_quo_u (q := 65536) rfl rfl rfl (by omega) (by omega) ?_
      refine e_index0 und41 siz29 rfl rfl (by omega) rfl ?_
      refine e_storeN (i := 0) siz29 rfl rfl rfl (by omega) (.inl rfl) ?_
      refine e_assign rfl rfl ?_
      refine e_nil ?_
      refine e_plain ?_
      refine e_add_i (q := 1) rfl rfl rfl (by omega) ?_
      refine e_move rfl rfl ?_
      refine e_nil ?_
      refine ⟨_, [(1, ptr r1), (2, ptr r2), (8, ii k), (3, u ((c + s2 j) / 65536)), (10, ii (j + 1))], [(0, ⟨r1, arr .u64 16 (upd s2 j ((c + s2 j) % 65536)), 41⟩), (1, ⟨r2, arr .u64 16 (fun _ => 0), 41⟩)], ?_, ⟨rfl, rfl, rfl, rfl, rfl, trivial⟩, ⟨rfl, rfl, trivial⟩, j + 1, upd s2 j ((c + s2 j) % 65536), (c + s2 j) / 65536, rfl, rfl, rfl, by omega, digit_lt hf1_1 (Nat.mod_lt _ (by decide)), keep_ge hf1_2, carry_next hf1_3 (hf1_2 j (Nat.le_refl j)), by omega⟩
      omega
    · intro hc1
      have hc1 := of_decide_eq_false hc1
      have hj16 : j = 16 := by omega
      subst hj16
      have hra := round_all (by omega) hf0_1 hf0_2 hf1_1 hf1_3
      have hd0 := hf1_1 0 (by decide)
      refine e_exit ?_
      refine e_plain ?_
      refine e_index0 (j := 0) und41 siz29 rfl rfl (by omega) rfl ?_
      refine e_load1 (i := 0) und29 rfl rfl rfl (arr_get (by omega)) rfl ⟨[], trivial⟩ ?_
      refine e_move rfl rfl ?_
      refine e_mul_u (p := 38) rfl rfl rfl  ?_
      refine e_as (congrArg u (Nat.mod_eq_of_lt (show 38 * c < 18446744073709551616 by omega))) ?_
      refine e_add_u rfl rfl rfl  ?_
      refine e_as (congrArg u (add_form (s2 0) (38 * c) (by omega) (by omega))) ?_
      refine e_index0 (j := 0) und41 siz29 rfl rfl (by omega) rfl ?_
      refine e_storeN (i := 0) siz29 rfl rfl rfl (by omega) (.inl rfl) ?_
      refine e_nil ?_
      refine e_plain ?_
      refine e_add_i (q := 1) rfl rfl rfl (by omega) ?_
      refine e_move rfl rfl ?_
      refine e_nil ?_
      refine ⟨_, [(1, ptr r1), (2, ptr r2), (8, ii (k + 1))], [(0, ⟨r1, arr .u64 16 (upd s2 0 (s2 0 + 38 * c)), 41⟩), (1, ⟨r2, arr .u64 16 (fun _ => 0), 41⟩)], ?_, ⟨rfl, rfl, rfl, trivial⟩, ⟨rfl, rfl, trivial⟩, k + 1, upd s2 0 (s2 0 + 38 * c), rfl, rfl, rfl, by omega, hra.1, hra.2.1, hra.2.2.1, hra.2.2.2⟩
      omega
  · intro hc0
    have hc0 := of_decide_eq_false hc0
    have hk3 : k = 3 := by omega
    subst hk3
    have hdig := hf0_4 rfl
    refine e_exit ?_
    refine e_seq ?_
    refine e_block ?_
    refine e_loop (fun kk E m => ∃ (s3 : Nat → Nat), kk = vs s3 16 ∧ E = [(1, ptr r1), (2, ptr r2)] ∧ m = [(0, ⟨r1, arr .u64 16 s3, 41⟩), (1, ⟨r2, arr .u64 16 (fun _ => 0), 41⟩)] ∧ (∀ j, j < 16 → s3 j < 65536) ∧ (vs s3 16 % PP = vs f 16 % PP)) [(1, ptr r1), (2, ptr r2)] [(0, ⟨r1, arr .u64 16 s, 41⟩), (1, ⟨r2, arr .u64 16 (fun _ => 0), 41⟩)] (vs s 16) ⟨rfl, rfl, trivial⟩ ⟨rfl, rfl, trivial⟩ ⟨s, rfl, rfl, rfl, hdig, hf0_1⟩ ?_
    rintro kk E m ⟨s3, rfl, rfl, rfl, hf2_0, hf2_1⟩
    refine e_seq ?_
    refine e_seq ?_
    refine e_plain ?_
    refine e_loadA (i := 0) und41 rfl siz41 rfl rfl (arr_size _ _ _) rfl ⟨[], trivial⟩ ?_
    refine e_call rfl ent46 (notBelow_fn s3 hf2_0) rfl rfl ?_
    refine e_nil ?_
    refine e_cond rfl ?_ ?_
    · intro hc2
      have hc2 := of_decide_eq_true hc2
      refine e_skip ?_
      refine e_block ?_
      refine e_seq ?_
      refine e_plain ?_
      refine e_assign rfl rfl ?_
      refine e_nil ?_
      refine e_seq ?_
      refine e_plain ?_
      refine e_move rfl rfl ?_
      refine e_nil ?_
      refine e_block ?_
      refine e_loop (fun kk E m => ∃ (j2 : Nat) (s4 : Nat → Nat) (c2 : Nat), kk = 16 - j2 ∧ E = [(1, ptr r1), (2, ptr r2), (5, u c2), (34, ii j2)] ∧ m = [(0, ⟨r1, arr .u64 16 s4, 41⟩), (1, ⟨r2, arr .u64 16 (fun _ => 0), 41⟩)] ∧ (j2 ≤ 16) ∧ (∀ t, t < j2 → s4 t < 65536) ∧ (∀ t, j2 ≤ t → s4 t = s3 t) ∧ (c2 ≤ 1) ∧ (vs s4 j2 + vs (d16 PP) j2 = vs s3 j2 + c2 * 2 ^ (16 * j2))) [(1, ptr r1), (2, ptr r2), (5, u 0), (34, ii 0)] [(0, ⟨r1, arr .u64 16 s3, 41⟩), (1, ⟨r2, arr .u64 16 (fun _ => 0), 41⟩)] (16 - 0) ⟨rfl, rfl, rfl, rfl, trivial⟩ ⟨rfl, rfl, trivial⟩ ⟨0, s3, 0, rfl, rfl, rfl, by omega, fun t ht => absurd ht (Nat.not_lt_zero t), fun t _ => rfl, by decide, by simp [vs]⟩ ?_
      rintro kk E m ⟨j2, s4, c2, rfl, rfl, rfl, hf3_0, hf3_1, hf3_2, hf3_3, hf3_4⟩
      have hpd := d16_lt PP j2
      have hs4 : s4 j2 = s3 j2 := hf3_2 j2 (Nat.le_refl j2)
      have hs6 : j2 < 16 → s3 j2 < 65536 := fun h => hf2_0 j2 h
      refine e_seq ?_
      refine e_plain ?_
      refine e_lt rfl rfl rfl ?_
      refine e_nil ?_
      refine e_seq ?_
      refine e_cond rfl ?_ ?_
      · intro hc3
        have hc3 := of_decide_eq_true hc3
        have hs5 := hs6 (by omega)
        refine e_skip ?_
        refine e_seq ?_
        refine e_block ?_
        refine e_seq ?_
        refine e_plain ?_
        refine e_move rfl rfl ?_
        refine e_assign rfl rfl ?_
        refine e_nil ?_
        refine e_seq ?_
        refine e_draw mixed (by kernel_rfl) ?_
        refine e_move rfl rfl ?_
        refine e_index0 und41 siz29 rfl rfl (by omega) rfl ?_
        refine e_load1 (i := 0) und29 rfl rfl rfl (arr_get (by omega)) rfl ⟨[], trivial⟩ ?_
        refine e_add_u (q := 65536) rfl rfl rfl  ?_
        refine e_move rfl rfl ?_
        refine e_index0 und41 siz29 rfl rfl (by omega) rfl ?_
        refine e_load1g (i := 0) und29 rfl rfl rfl (arr_get (by omega)) rfl ?_
        refine e_sub_u rfl rfl rfl (by omega) ?_
        refine e_move rfl rfl ?_
        refine e_sub_u rfl rfl rfl (by omega) ?_
        refine e_as (congrArg u (bor_form (s4 j2) (d16 PP j2) c2 (by omega) (by omega) (by omega))) ?_
        refine e_assign rfl rfl ?_
        refine e_nil ?_
        refine e_plain ?_
        refine e_move rfl rfl ?_
        refine e_move rfl rfl ?_
        refine e_rem_u (q := 65536) rfl rfl rfl (by omega) ?_
        refine e_move rfl rfl ?_
        refine e_quo_u (q := 65536) rfl rfl rfl (by omega) (by omega) ?_
        refine e_sub_u (p := 1) rfl rfl rfl (by omega) ?_
        refine e_as (congrArg u (bor_form2 _ (by omega))) ?_
        refine e_index0 und41 siz29 rfl rfl (by omega) rfl ?_
        refine e_storeN (i := 0) siz29 rfl rfl rfl (by omega) (.inl rfl) ?_
        refine e_assign rfl rfl ?_
        refine e_nil ?_
        refine e_plain ?_
        refine e_add_i (q := 1) rfl rfl rfl (by omega) ?_
        refine e_move rfl rfl ?_
        refine e_nil ?_
        refine ⟨_, [(1, ptr r1), (2, ptr r2), (5, u (1 - (s4 j2 + 65536 - d16 PP j2 - c2) / 65536)), (34, ii (j2 + 1))], [(0, ⟨r1, arr .u64 16 (upd s4 j2 ((s4 j2 + 65536 - d16 PP j2 - c2) % 65536)), 41⟩), (1, ⟨r2, arr .u64 16 (fun _ => 0), 41⟩)], ?_, ⟨rfl, rfl, rfl, rfl, trivial⟩, ⟨rfl, rfl, trivial⟩, j2 + 1, upd s4 j2 ((s4 j2 + 65536 - d16 PP j2 - c2) % 65536), 1 - (s4 j2 + 65536 - d16 PP j2 - c2) / 65536, rfl, rfl, rfl, by omega, digit_lt hf3_1 (Nat.mod_lt _ (by decide)), keep_ge hf3_2, by omega, by rw [hs4]; exact borrow_next hf3_3 hs5 (d16_lt PP j2) hf3_4⟩
        omega
      · intro hc3
        have hc3 := of_decide_eq_false hc3
        have hj16 : j2 = 16 := by omega
        subst hj16
        have hmf := minus_fin hf3_1 hc2 hf3_4 hf3_3
        refine e_exit ?_
        refine ⟨_, [(1, ptr r1), (2, ptr r2)], [(0, ⟨r1, arr .u64 16 s4, 41⟩), (1, ⟨r2, arr .u64 16 (fun _ => 0), 41⟩)], ?_, ⟨rfl, rfl, trivial⟩, ⟨rfl, rfl, trivial⟩, s4, rfl, rfl, rfl, hf3_1, by rw [← hf2_1, ← hmf, Nat.add_mod_right]⟩
        have := PP_pos
        omega
    · intro hc2
      have hc2 := of_decide_eq_false hc2
      refine e_exit ?_
      refine e_seq ?_
      refine e_plain ?_
      refine e_loadA (i := 0) und41 rfl siz41 rfl rfl (arr_size _ _ _) rfl ⟨[], trivial⟩ ?_
      refine e_storeA (i := 1) siz41 rfl rfl (arr_size _ _ _) arr_one rfl (arr_sz _ _ _ _ _) (.inl rfl) ?_
      refine e_nil ?_
      refine e_ret ?_
      have hlt : vs s3 16 < PP := by omega
      rw [← dg_of hf2_0 (show vs s3 16 = vs f 16 % PP by rw [← hf2_1, Nat.mod_eq_of_lt hlt])]
      exact ⟨_, rfl, .cell (i := 1) rfl rfl und41 rfl siz41 (arr_size _ _ _)⟩

end Go.Proofs.YthhcgeoldjmpaaaDoor
