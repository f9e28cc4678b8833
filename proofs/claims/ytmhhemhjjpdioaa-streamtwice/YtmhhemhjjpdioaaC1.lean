/-
  Walks, written by a program of ours off the loaded functions.
-/
import Derived.Test.YtmhhemhjjpdioaaRows
import Derived.Test.YtmhhemhjjpdioaaCh
namespace Go.Proofs.Ytmhhemhjjpdioaa
open Go Go.RowKit


theorem mixed : Try.prog.follows .mixedOrders = true := by kernel_rfl
theorem ent26 : enters Try.prog 26 = true := by kernel_rfl
theorem siz5 : (Try.prog.info? 5).map (·.size) = some 1 := by kernel_rfl
theorem siz23 : (Try.prog.info? 23).map (·.size) = some 1 := by kernel_rfl
theorem siz49 : (Try.prog.info? 49).map (·.size) = some 4 := by kernel_rfl
theorem siz50 : (Try.prog.info? 50).map (·.size) = some 16 := by kernel_rfl
theorem und5 : Try.prog.underlying 5 = some (.int .u8) := by kernel_rfl
theorem und9 : Try.prog.underlying 9 = some (.string) := by kernel_rfl
theorem und23 : Try.prog.underlying 23 = some (.int .u32) := by kernel_rfl
theorem und28 : Try.prog.underlying 28 = some (.slice 5) := by kernel_rfl
theorem und48 : Try.prog.underlying 48 = some (.int .u64) := by kernel_rfl
theorem und49 : Try.prog.underlying 49 = some (.array 4 23) := by kernel_rfl
theorem und50 : Try.prog.underlying 50 = some (.array 4 49) := by kernel_rfl
theorem zer5 : (Try.prog.info? 5).bind (·.zero) = some (.int .u8 0) := by kernel_rfl
theorem zer50 : (Try.prog.info? 50).bind (·.zero) = some (.agg (arr .u32 16 fun _ => 0)) := by kernel_rfl

variable {G : Mem}

set_option maxHeartbeats 400000 in
theorem left_fn (n b : Nat) (hb : b ≤ 32) : Fn Try.prog G 26 #[uw n, ii b] (uw (rotl n b)) := by
  refine fn1 (n := 13) Try.func26 rfl rfl (by simp) (argE [uw n, ii b] 0) (argE_ok _) ?_
  refine e_seq ?_
  refine e_plain ?_
  refine e_assign rfl rfl ?_
  refine e_nil ?_
  refine e_seq ?_
  refine e_draw mixed (by kernel_rfl) ?_
  refine e_move rfl rfl ?_
  refine e_move rfl rfl ?_
  refine e_shl_w rfl rfl rfl (by omega) ?_
  refine e_move rfl rfl ?_
  refine e_move rfl rfl ?_
  refine e_sub_z (p := 32) rfl rfl rfl (by omega) (by omega) ?_
  refine e_as (congrArg (Value.int .i64) (show (32 : Int) - (b : Int) = ((32 - b : Nat) : Int) by omega)) ?_
  refine e_shr_w rfl rfl rfl (by omega) ?_
  refine e_or_w rfl rfl rfl  ?_
  refine e_assign rfl rfl ?_
  refine e_nil ?_
  refine e_ret ?_
  exact ⟨_, rfl, .tmp rfl⟩

set_option maxHeartbeats 400000 in
theorem round_fn (f : Nat → Nat) : Fn Try.prog G 21 #[.agg (arr .u32 16 f)] (.agg (arr .u32 16 (rnd f))) := by
  refine fn1 (n := 73) Try.func21 rfl rfl (by simp) (argE [.agg (arr .u32 16 f)] 0) (argE_ok _) ?_
  refine e_seq ?_
  refine e_plain ?_
  refine e_box 0 rfl rfl fun r1 => ?_
  refine e_alloc 1 zer50 rfl fun r2 => ?_
  refine e_nil ?_
  refine e_seq ?_
  refine e_seq ?_
  refine e_plain ?_
  refine e_move rfl rfl ?_
  refine e_nil ?_
  refine e_block ?_
  refine e_loop (fun kk E m => ∃ (k : Nat) (s : Nat → Nat), kk = 4 - k ∧ E = [(1, ptr r1), (2, ptr r2), (8, ii k)] ∧ m = [(0, some ⟨r1, arr .u32 16 s, 50⟩), (1, some ⟨r2, arr .u32 16 (fun _ => 0), 50⟩)] ∧ (k ≤ 4) ∧ (∀ t, t < 16 → s t = if t % 4 < k then rnd f t else f t)) [(1, ptr r1), (2, ptr r2), (8, ii 0)] [(0, some ⟨r1, arr .u32 16 f, 50⟩), (1, some ⟨r2, arr .u32 16 (fun _ => 0), 50⟩)] (4 - 0) ⟨rfl, rfl, rfl, trivial⟩ ⟨rfl, rfl, trivial⟩ ⟨0, f, rfl, rfl, rfl, by omega, fun t _ => by rw [if_neg (by omega)]⟩ ?_
  rintro kk E m ⟨k, s, rfl, rfl, rfl, hf0_0, hf0_1⟩
  refine e_seq ?_
  refine e_plain ?_
  refine e_lt rfl rfl rfl ?_
  refine e_nil ?_
  refine e_seq ?_
  refine e_cond rfl ?_ ?_
  · intro hc0
    have hc0 := of_decide_eq_true hc0
    refine e_skip ?_
    refine e_seq ?_
    refine e_block ?_
    refine e_seq ?_
    refine e_plain ?_
    refine e_move rfl rfl ?_
    refine e_assign rfl rfl ?_
    refine e_nil ?_
    refine e_seq ?_
    refine e_draw mixed (by kernel_rfl) ?_
    refine e_move rfl rfl ?_
    refine e_at (0) (j := 0) und50 siz49 rfl rfl (by omega) (by omega) rfl ?_
    refine e_index0 und49 siz23 rfl rfl (by omega) rfl ?_
    refine e_load1 (i := 0) und23 rfl rfl rfl (arr_get (by omega)) rfl ⟨[], trivial⟩ ?_
    refine e_move rfl rfl ?_
    refine e_at (4) (j := 1) und50 siz49 rfl rfl (by omega) (by omega) rfl ?_
    refine e_at (4 + k) und49 siz23 rfl rfl (by omega) (by omega) rfl ?_
    refine e_load1 (i := 0) und23 rfl rfl rfl (arr_get (by omega)) rfl ⟨[], trivial⟩ ?_
    refine e_move rfl rfl ?_
    refine e_at (8) (j := 2) und50 siz49 rfl rfl (by omega) (by omega) rfl ?_
    refine e_at (8 + k) und49 siz23 rfl rfl (by omega) (by omega) rfl ?_
    refine e_load1 (i := 0) und23 rfl rfl rfl (arr_get (by omega)) rfl ⟨[], trivial⟩ ?_
    refine e_move rfl rfl ?_
    refine e_at (12) (j := 3) und50 siz49 rfl rfl (by omega) (by omega) rfl ?_
    refine e_at (12 + k) und49 siz23 rfl rfl (by omega) (by omega) rfl ?_
    refine e_load1 (i := 0) und23 rfl rfl rfl (arr_get (by omega)) rfl ⟨[], trivial⟩ ?_
    refine e_assign rfl rfl ?_
    refine e_assign rfl rfl ?_
    refine e_assign rfl rfl ?_
    refine e_assign rfl rfl ?_
    refine e_nil ?_
    refine e_seq ?_
    refine e_plain ?_
    refine e_move rfl rfl ?_
    refine e_move rfl rfl ?_
    refine e_add_w rfl rfl rfl  ?_
    refine e_assign rfl rfl ?_
    refine e_nil ?_
    refine e_seq ?_
    refine e_plain ?_
    refine e_move rfl rfl ?_
    refine e_move rfl rfl ?_
    refine e_xor_w rfl rfl rfl  ?_
    refine e_call rfl ent26 (left_fn _ _ (by decide)) rfl rfl ?_
    refine e_assign rfl rfl ?_
    refine e_nil ?_
    refine e_seq ?_
    refine e_plain ?_
    refine e_move rfl rfl ?_
    refine e_move rfl rfl ?_
    refine e_add_w rfl rfl rfl  ?_
    refine e_assign rfl rfl ?_
    refine e_nil ?_
    refine e_seq ?_
    refine e_plain ?_
    refine e_move rfl rfl ?_
    refine e_move rfl rfl ?_
    refine e_xor_w rfl rfl rfl  ?_
    refine e_call rfl ent26 (left_fn _ _ (by decide)) rfl rfl ?_
    refine e_assign rfl rfl ?_
    refine e_nil ?_
    refine e_seq ?_
    refine e_plain ?_
    refine e_move rfl rfl ?_
    refine e_move rfl rfl ?_
    refine e_add_w rfl rfl rfl  ?_
    refine e_assign rfl rfl ?_
    refine e_nil ?_
    refine e_seq ?_
    refine e_plain ?_
    refine e_move rfl rfl ?_
    refine e_move rfl rfl ?_
    refine e_xor_w rfl rfl rfl  ?_
    refine e_call rfl ent26 (left_fn _ _ (by decide)) rfl rfl ?_
    refine e_assign rfl rfl ?_
    refine e_nil ?_
    refine e_seq ?_
    refine e_plain ?_
    refine e_move rfl rfl ?_
    refine e_move rfl rfl ?_
    refine e_add_w rfl rfl rfl  ?_
    refine e_assign rfl rfl ?_
    refine e_nil ?_
    refine e_seq ?_
    refine e_plain ?_
    refine e_move rfl rfl ?_
    refine e_move rfl rfl ?_
    refine e_xor_w rfl rfl rfl  ?_
    refine e_call rfl ent26 (left_fn _ _ (by decide)) rfl rfl ?_
    refine e_assign rfl rfl ?_
    refine e_nil ?_
    refine e_plain ?_
    refine e_move rfl rfl ?_
    refine e_move rfl rfl ?_
    refine e_move rfl rfl ?_
    refine e_move rfl rfl ?_
    refine e_move rfl rfl ?_
    refine e_move rfl rfl ?_
    refine e_move rfl rfl ?_
    refine e_move rfl rfl ?_
    refine e_at (0) (j := 0) und50 siz49 rfl rfl (by omega) (by omega) rfl ?_
    refine e_index0 und49 siz23 rfl rfl (by omega) rfl ?_
    refine e_storeN (i := 0) siz23 rfl rfl rfl (by omega) (.inl rfl) ?_
    refine e_at (4) (j := 1) und50 siz49 rfl rfl (by omega) (by omega) rfl ?_
    refine e_at (4 + k) und49 siz23 rfl rfl (by omega) (by omega) rfl ?_
    refine e_storeN (i := 0) siz23 rfl rfl rfl (by omega) (.inl rfl) ?_
    refine e_at (8) (j := 2) und50 siz49 rfl rfl (by omega) (by omega) rfl ?_
    refine e_at (8 + k) und49 siz23 rfl rfl (by omega) (by omega) rfl ?_
    refine e_storeN (i := 0) siz23 rfl rfl rfl (by omega) (.inl rfl) ?_
    refine e_at (12) (j := 3) und50 siz49 rfl rfl (by omega) (by omega) rfl ?_
    refine e_at (12 + k) und49 siz23 rfl rfl (by omega) (by omega) rfl ?_
    refine e_storeN (i := 0) siz23 rfl rfl rfl (by omega) (.inl rfl) ?_
    refine e_nil ?_
    refine e_plain ?_
    refine e_add_i (q := 1) rfl rfl rfl (by omega) ?_
    refine e_move rfl rfl ?_
    refine e_nil ?_
    refine ⟨_, [(1, ptr r1), (2, ptr r2), (8, ii (k + 1))], [(0, some ⟨r1, arr .u32 16 (upd (upd (upd (upd s k _) (4 + k) _) (8 + k) _) (12 + k) _), 50⟩), (1, some ⟨r2, arr .u32 16 (fun _ => 0), 50⟩)], ?_, ⟨rfl, rfl, rfl, trivial⟩, ⟨rfl, rfl, trivial⟩, k + 1, upd (upd (upd (upd s k _) (4 + k) _) (8 + k) _) (12 + k) _, rfl, rfl, rfl, by omega, rnd_step (by omega) hf0_1 _ rfl⟩
    omega
  · intro hc0
    have hc0 := of_decide_eq_false hc0
    have hk : k = 4 := by omega
    subst hk
    refine e_exit ?_
    refine e_seq ?_
    refine e_plain ?_
    refine e_loadA (i := 0) und50 rfl siz50 rfl rfl (arr_size _ _ _) rfl ⟨[], trivial⟩ ?_
    refine e_storeA (i := 1) siz50 rfl rfl (arr_size _ _ _) arr_one rfl (arr_sz _ _ _ _ _) (.inl rfl) ?_
    refine e_nil ?_
    refine e_ret ?_
    rw [← rnd_end hf0_1]
    exact ⟨_, rfl, .cell (i := 1) rfl rfl und50 rfl siz50 (arr_size _ _ _)⟩

set_option maxHeartbeats 400000 in
theorem sh1_fn (f : Nat → Nat) : Fn Try.prog G 20 #[.agg (arr .u32 16 f), ii 1] (.agg (arr .u32 16 (sh1 f))) := by
  refine fn1 (n := 32) Try.func20 rfl rfl (by simp) (argE [.agg (arr .u32 16 f), ii 1] 0) (argE_ok _) ?_
  refine e_seq ?_
  refine e_plain ?_
  refine e_box 0 rfl rfl fun r1 => ?_
  refine e_alloc 1 zer50 rfl fun r2 => ?_
  refine e_nil ?_
  refine e_seq ?_
  refine e_plain ?_
  refine e_alloc 2 zer50 rfl fun r3 => ?_
  refine e_nil ?_
  refine e_seq ?_
  refine e_seq ?_
  refine e_plain ?_
  refine e_move rfl rfl ?_
  refine e_nil ?_
  refine e_block ?_
  refine e_loop (fun kk E m => ∃ (k : Nat) (s : Nat → Nat), kk = 4 - k ∧ E = [(1, ii 1), (2, ptr r1), (4, ptr r2), (5, ptr r3), (8, ii k)] ∧ m = [(0, some ⟨r1, arr .u32 16 f, 50⟩), (1, some ⟨r2, arr .u32 16 (fun _ => 0), 50⟩), (2, some ⟨r3, arr .u32 16 s, 50⟩)] ∧ (k ≤ 4) ∧ (∀ t, t < 4 * k → s t = sh1 f t)) [(1, ii 1), (2, ptr r1), (4, ptr r2), (5, ptr r3), (8, ii 0)] [(0, some ⟨r1, arr .u32 16 f, 50⟩), (1, some ⟨r2, arr .u32 16 (fun _ => 0), 50⟩), (2, some ⟨r3, arr .u32 16 (fun _ => 0), 50⟩)] (4 - 0) ⟨rfl, rfl, rfl, rfl, rfl, trivial⟩ ⟨rfl, rfl, rfl, trivial⟩ ⟨0, fun _ => 0, rfl, rfl, rfl, by omega, fun t ht => absurd ht (Nat.not_lt_zero t)⟩ ?_
  rintro kk E m ⟨k, s, rfl, rfl, rfl, hf0_0, hf0_1⟩
  refine e_seq ?_
  refine e_plain ?_
  refine e_lt rfl rfl rfl ?_
  refine e_nil ?_
  refine e_seq ?_
  refine e_cond rfl ?_ ?_
  · intro hc0
    have hc0 := of_decide_eq_true hc0
    refine e_skip ?_
    refine e_seq ?_
    refine e_block ?_
    refine e_seq ?_
    refine e_plain ?_
    refine e_move rfl rfl ?_
    refine e_assign rfl rfl ?_
    refine e_nil ?_
    refine e_seq ?_
    refine e_plain ?_
    refine e_move rfl rfl ?_
    refine e_nil ?_
    refine e_block ?_
    refine e_loop (fun kk E m => ∃ (j : Nat) (s2 : Nat → Nat), kk = 4 - j ∧ E = [(1, ii 1), (2, ptr r1), (4, ptr r2), (5, ptr r3), (8, ii k), (6, ii k), (11, ii j)] ∧ m = [(0, some ⟨r1, arr .u32 16 f, 50⟩), (1, some ⟨r2, arr .u32 16 (fun _ => 0), 50⟩), (2, some ⟨r3, arr .u32 16 s2, 50⟩)] ∧ (j ≤ 4) ∧ (∀ t, t < 4 * k + j → s2 t = sh1 f t)) [(1, ii 1), (2, ptr r1), (4, ptr r2), (5, ptr r3), (8, ii k), (6, ii k), (11, ii 0)] [(0, some ⟨r1, arr .u32 16 f, 50⟩), (1, some ⟨r2, arr .u32 16 (fun _ => 0), 50⟩), (2, some ⟨r3, arr .u32 16 s, 50⟩)] (4 - 0) ⟨rfl, rfl, rfl, rfl, rfl, rfl, rfl, trivial⟩ ⟨rfl, rfl, rfl, trivial⟩ ⟨0, s, rfl, rfl, rfl, by omega, hf0_1⟩ ?_
    rintro kk E m ⟨j, s2, rfl, rfl, rfl, hf1_0, hf1_1⟩
    refine e_seq ?_
    refine e_plain ?_
    refine e_lt rfl rfl rfl ?_
    refine e_nil ?_
    refine e_seq ?_
    refine e_cond rfl ?_ ?_
    · intro hc1
      have hc1 := of_decide_eq_true hc1
      refine e_skip ?_
      refine e_seq ?_
      refine e_block ?_
      refine e_seq ?_
      refine e_plain ?_
      refine e_move rfl rfl ?_
      refine e_assign rfl rfl ?_
      refine e_nil ?_
      refine e_draw mixed (by kernel_rfl) ?_
      refine e_move rfl rfl ?_
      refine e_move rfl rfl ?_
      refine e_move rfl rfl ?_
      refine e_move rfl rfl ?_
      refine e_add_i (q := 4) rfl rfl rfl (by omega) ?_
      refine e_move rfl rfl ?_
      refine e_move rfl rfl ?_
      refine e_mul_i rfl rfl rfl (by omega) ?_
      refine e_add_i rfl rfl rfl (by omega) ?_
      refine e_rem_i (q := 4) rfl rfl rfl (by omega) ?_
      refine e_at (4 * k) und50 siz49 rfl rfl (by omega) (by omega) rfl ?_
      refine e_at (4 * k + (j + 4 + 1 * k) % 4) und49 siz23 rfl rfl (by omega) (by omega) rfl ?_
      refine e_load1 (i := 0) und23 rfl rfl rfl (arr_get (by omega)) rfl ⟨[], trivial⟩ ?_
      refine e_at (4 * k) und50 siz49 rfl rfl (by omega) (by omega) rfl ?_
      refine e_at (4 * k + j) und49 siz23 rfl rfl (by omega) (by omega) rfl ?_
      refine e_storeN (i := 2) siz23 rfl rfl rfl (by omega) (.inl rfl) ?_
      refine e_nil ?_
      refine e_plain ?_
      refine e_add_i (q := 1) rfl rfl rfl (by omega) ?_
      refine e_move rfl rfl ?_
      refine e_nil ?_
      refine ⟨_, [(1, ii 1), (2, ptr r1), (4, ptr r2), (5, ptr r3), (8, ii k), (6, ii k), (11, ii (j + 1))], [(0, some ⟨r1, arr .u32 16 f, 50⟩), (1, some ⟨r2, arr .u32 16 (fun _ => 0), 50⟩), (2, some ⟨r3, arr .u32 16 (upd s2 (4 * k + j) _), 50⟩)], ?_, ⟨rfl, rfl, rfl, rfl, rfl, rfl, rfl, trivial⟩, ⟨rfl, rfl, rfl, trivial⟩, j + 1, upd s2 (4 * k + j) _, rfl, rfl, rfl, by omega, sh_at sh1 f s2 (sh1_v f (by omega)) hf1_1⟩
      omega
    · intro hc1
      have hc1 := of_decide_eq_false hc1
      have hj4 : j = 4 := by omega
      subst hj4
      refine e_exit ?_
      refine e_plain ?_
      refine e_add_i (q := 1) rfl rfl rfl (by omega) ?_
      refine e_move rfl rfl ?_
      refine e_nil ?_
      refine ⟨_, [(1, ii 1), (2, ptr r1), (4, ptr r2), (5, ptr r3), (8, ii (k + 1))], [(0, some ⟨r1, arr .u32 16 f, 50⟩), (1, some ⟨r2, arr .u32 16 (fun _ => 0), 50⟩), (2, some ⟨r3, arr .u32 16 s2, 50⟩)], ?_, ⟨rfl, rfl, rfl, rfl, rfl, trivial⟩, ⟨rfl, rfl, rfl, trivial⟩, k + 1, s2, rfl, rfl, rfl, by omega, by rw [show 4 * (k + 1) = 4 * k + 4 by omega]; exact hf1_1⟩
      omega
  · intro hc0
    have hc0 := of_decide_eq_false hc0
    have hk : k = 4 := by omega
    subst hk
    refine e_exit ?_
    refine e_seq ?_
    refine e_plain ?_
    refine e_loadA (i := 2) und50 rfl siz50 rfl rfl (arr_size _ _ _) rfl ⟨[], trivial⟩ ?_
    refine e_storeA (i := 1) siz50 rfl rfl (arr_size _ _ _) arr_one rfl (arr_sz _ _ _ _ _) (.inl rfl) ?_
    refine e_nil ?_
    refine e_ret ?_
    rw [← arr_congr hf0_1]
    exact ⟨_, rfl, .cell (i := 1) rfl rfl und50 rfl siz50 (arr_size _ _ _)⟩

set_option maxHeartbeats 400000 in
theorem shm_fn (f : Nat → Nat) : Fn Try.prog G 20 #[.agg (arr .u32 16 f), .int .i64 (-1)] (.agg (arr .u32 16 (shm f))) := by
  refine fn1 (n := 32) Try.func20 rfl rfl (by simp) (argE [.agg (arr .u32 16 f), .int .i64 (-1)] 0) (argE_ok _) ?_
  refine e_seq ?_
  refine e_plain ?_
  refine e_box 0 rfl rfl fun r1 => ?_
  refine e_alloc 1 zer50 rfl fun r2 => ?_
  refine e_nil ?_
  refine e_seq ?_
  refine e_plain ?_
  refine e_alloc 2 zer50 rfl fun r3 => ?_
  refine e_nil ?_
  refine e_seq ?_
  refine e_seq ?_
  refine e_plain ?_
  refine e_move rfl rfl ?_
  refine e_nil ?_
  refine e_block ?_
  refine e_loop (fun kk E m => ∃ (k : Nat) (s : Nat → Nat), kk = 4 - k ∧ E = [(1, .int .i64 (-1)), (2, ptr r1), (4, ptr r2), (5, ptr r3), (8, ii k)] ∧ m = [(0, some ⟨r1, arr .u32 16 f, 50⟩), (1, some ⟨r2, arr .u32 16 (fun _ => 0), 50⟩), (2, some ⟨r3, arr .u32 16 s, 50⟩)] ∧ (k ≤ 4) ∧ (∀ t, t < 4 * k → s t = shm f t)) [(1, .int .i64 (-1)), (2, ptr r1), (4, ptr r2), (5, ptr r3), (8, ii 0)] [(0, some ⟨r1, arr .u32 16 f, 50⟩), (1, some ⟨r2, arr .u32 16 (fun _ => 0), 50⟩), (2, some ⟨r3, arr .u32 16 (fun _ => 0), 50⟩)] (4 - 0) ⟨rfl, rfl, rfl, rfl, rfl, trivial⟩ ⟨rfl, rfl, rfl, trivial⟩ ⟨0, fun _ => 0, rfl, rfl, rfl, by omega, fun t ht => absurd ht (Nat.not_lt_zero t)⟩ ?_
  rintro kk E m ⟨k, s, rfl, rfl, rfl, hf0_0, hf0_1⟩
  refine e_seq ?_
  refine e_plain ?_
  refine e_lt rfl rfl rfl ?_
  refine e_nil ?_
  refine e_seq ?_
  refine e_cond rfl ?_ ?_
  · intro hc0
    have hc0 := of_decide_eq_true hc0
    refine e_skip ?_
    refine e_seq ?_
    refine e_block ?_
    refine e_seq ?_
    refine e_plain ?_
    refine e_move rfl rfl ?_
    refine e_assign rfl rfl ?_
    refine e_nil ?_
    refine e_seq ?_
    refine e_plain ?_
    refine e_move rfl rfl ?_
    refine e_nil ?_
    refine e_block ?_
    refine e_loop (fun kk E m => ∃ (j : Nat) (s2 : Nat → Nat), kk = 4 - j ∧ E = [(1, .int .i64 (-1)), (2, ptr r1), (4, ptr r2), (5, ptr r3), (8, ii k), (6, ii k), (11, ii j)] ∧ m = [(0, some ⟨r1, arr .u32 16 f, 50⟩), (1, some ⟨r2, arr .u32 16 (fun _ => 0), 50⟩), (2, some ⟨r3, arr .u32 16 s2, 50⟩)] ∧ (j ≤ 4) ∧ (∀ t, t < 4 * k + j → s2 t = shm f t)) [(1, .int .i64 (-1)), (2, ptr r1), (4, ptr r2), (5, ptr r3), (8, ii k), (6, ii k), (11, ii 0)] [(0, some ⟨r1, arr .u32 16 f, 50⟩), (1, some ⟨r2, arr .u32 16 (fun _ => 0), 50⟩), (2, some ⟨r3, arr .u32 16 s, 50⟩)] (4 - 0) ⟨rfl, rfl, rfl, rfl, rfl, rfl, rfl, trivial⟩ ⟨rfl, rfl, rfl, trivial⟩ ⟨0, s, rfl, rfl, rfl, by omega, hf0_1⟩ ?_
    rintro kk E m ⟨j, s2, rfl, rfl, rfl, hf1_0, hf1_1⟩
    refine e_seq ?_
    refine e_plain ?_
    refine e_lt rfl rfl rfl ?_
    refine e_nil ?_
    refine e_seq ?_
    refine e_cond rfl ?_ ?_
    · intro hc1
      have hc1 := of_decide_eq_true hc1
      refine e_skip ?_
      refine e_seq ?_
      refine e_block ?_
      refine e_seq ?_
      refine e_plain ?_
      refine e_move rfl rfl ?_
      refine e_assign rfl rfl ?_
      refine e_nil ?_
      refine e_draw mixed (by kernel_rfl) ?_
      refine e_move rfl rfl ?_
      refine e_move rfl rfl ?_
      refine e_move rfl rfl ?_
      refine e_move rfl rfl ?_
      refine e_add_i (q := 4) rfl rfl rfl (by omega) ?_
      refine e_move rfl rfl ?_
      refine e_move rfl rfl ?_
      refine e_mul_z rfl rfl rfl (by omega) (by omega) ?_
      refine e_add_z rfl rfl rfl (by omega) (by omega) ?_
      refine e_as (congrArg (Value.int .i64) (show ((j + 4 : Nat) : Int) + -1 * ((k : Nat) : Int) = ((j + 4 - k : Nat) : Int) by omega)) ?_
      refine e_rem_i (q := 4) rfl rfl rfl (by omega) ?_
      refine e_at (4 * k) und50 siz49 rfl rfl (by omega) (by omega) rfl ?_
      refine e_at (4 * k + (j + 4 - k) % 4) und49 siz23 rfl rfl (by omega) (by omega) rfl ?_
      refine e_load1 (i := 0) und23 rfl rfl rfl (arr_get (by omega)) rfl ⟨[], trivial⟩ ?_
      refine e_at (4 * k) und50 siz49 rfl rfl (by omega) (by omega) rfl ?_
      refine e_at (4 * k + j) und49 siz23 rfl rfl (by omega) (by omega) rfl ?_
      refine e_storeN (i := 2) siz23 rfl rfl rfl (by omega) (.inl rfl) ?_
      refine e_nil ?_
      refine e_plain ?_
      refine e_add_i (q := 1) rfl rfl rfl (by omega) ?_
      refine e_move rfl rfl ?_
      refine e_nil ?_
      refine ⟨_, [(1, .int .i64 (-1)), (2, ptr r1), (4, ptr r2), (5, ptr r3), (8, ii k), (6, ii k), (11, ii (j + 1))], [(0, some ⟨r1, arr .u32 16 f, 50⟩), (1, some ⟨r2, arr .u32 16 (fun _ => 0), 50⟩), (2, some ⟨r3, arr .u32 16 (upd s2 (4 * k + j) _), 50⟩)], ?_, ⟨rfl, rfl, rfl, rfl, rfl, rfl, rfl, trivial⟩, ⟨rfl, rfl, rfl, trivial⟩, j + 1, upd s2 (4 * k + j) _, rfl, rfl, rfl, by omega, sh_at shm f s2 (shm_v f (by omega)) hf1_1⟩
      omega
    · intro hc1
      have hc1 := of_decide_eq_false hc1
      have hj4 : j = 4 := by omega
      subst hj4
      refine e_exit ?_
      refine e_plain ?_
      refine e_add_i (q := 1) rfl rfl rfl (by omega) ?_
      refine e_move rfl rfl ?_
      refine e_nil ?_
      refine ⟨_, [(1, .int .i64 (-1)), (2, ptr r1), (4, ptr r2), (5, ptr r3), (8, ii (k + 1))], [(0, some ⟨r1, arr .u32 16 f, 50⟩), (1, some ⟨r2, arr .u32 16 (fun _ => 0), 50⟩), (2, some ⟨r3, arr .u32 16 s2, 50⟩)], ?_, ⟨rfl, rfl, rfl, rfl, rfl, trivial⟩, ⟨rfl, rfl, rfl, trivial⟩, k + 1, s2, rfl, rfl, rfl, by omega, by rw [show 4 * (k + 1) = 4 * k + 4 by omega]; exact hf1_1⟩
      omega
  · intro hc0
    have hc0 := of_decide_eq_false hc0
    have hk : k = 4 := by omega
    subst hk
    refine e_exit ?_
    refine e_seq ?_
    refine e_plain ?_
    refine e_loadA (i := 2) und50 rfl siz50 rfl rfl (arr_size _ _ _) rfl ⟨[], trivial⟩ ?_
    refine e_storeA (i := 1) siz50 rfl rfl (arr_size _ _ _) arr_one rfl (arr_sz _ _ _ _ _) (.inl rfl) ?_
    refine e_nil ?_
    refine e_ret ?_
    rw [← arr_congr hf0_1]
    exact ⟨_, rfl, .cell (i := 1) rfl rfl und50 rfl siz50 (arr_size _ _ _)⟩

set_option maxHeartbeats 400000 in
theorem low_fn (n k : Nat) (hn : n < 18446744073709551616) (hk : k ≤ 64) : Fn Try.prog G 18 #[u n, ii k] (sv (lowl n k)) := by
  refine fn1 (n := 19) Try.func18 rfl rfl (by simp) (argE [u n, ii k] 0) (argE_ok _) ?_
  refine e_seq ?_
  refine e_plain ?_
  refine e_assign (v := sv []) rfl rfl ?_
  refine e_nil ?_
  refine e_seq ?_
  refine e_plain ?_
  refine e_assign (v := sv []) rfl rfl ?_
  refine e_nil ?_
  refine e_seq ?_
  refine e_seq ?_
  refine e_plain ?_
  refine e_move rfl rfl ?_
  refine e_move rfl rfl ?_
  refine e_nil ?_
  refine e_block ?_
  refine e_loop (fun kk E m => ∃ (i : Nat), kk = k - i ∧ E = [(0, u (n / 256 ^ i)), (1, ii k), (5, sv (lowl n i)), (6, ii k), (7, ii i)] ∧ m = [] ∧ (i ≤ k)) [(0, u (n / 256 ^ 0)), (1, ii k), (5, sv (lowl n 0)), (6, ii k), (7, ii 0)] [] (k - 0) ⟨by rw [Nat.pow_zero, Nat.div_one]; rfl, rfl, rfl, rfl, rfl, trivial⟩ trivial ⟨0, rfl, rfl, rfl, by omega⟩ ?_
  rintro kk E m ⟨i, rfl, rfl, rfl, hf0_0⟩
  have hq : n / 256 ^ i < 18446744073709551616 := Nat.lt_of_le_of_lt (Nat.div_le_self _ _) hn
  have hll := lowl_len n i
  refine e_seq ?_
  refine e_plain ?_
  refine e_lt rfl rfl rfl ?_
  refine e_nil ?_
  refine e_seq ?_
  refine e_cond rfl ?_ ?_
  · intro hc0
    have hc0 := of_decide_eq_true hc0
    refine e_skip ?_
    refine e_seq ?_
    refine e_block ?_
    refine e_seq ?_
    refine e_plain ?_
    refine e_move rfl rfl ?_
    refine e_move rfl rfl ?_
    refine e_conv_u8 und48 und5 rfl rfl ?_
    refine e_buildSl 0 #[by8 (n / 256 ^ i % 256)] und28 siz5 zer5 (by decide) (by decide) rfl (by kernel_rfl) rfl fun r1 => ?_
    refine e_conv_strV (l := [n / 256 ^ i % 256]) (shows_new _ _ (by rfl)) (seen1 0 rfl ⟨[], trivial⟩) und28 und5 und9 rfl rfl ?_
    refine e_catS rfl rfl rfl (by simp; omega) ?_
    refine e_assign rfl rfl ?_
    refine e_nil ?_
    refine e_plain ?_
    refine e_move rfl rfl ?_
    refine e_quo_u (q := 256) rfl rfl rfl (by omega) (by omega) ?_
    refine e_assign rfl rfl ?_
    refine e_nil ?_
    refine e_plain ?_
    refine e_add_i (q := 1) rfl rfl rfl (by omega) ?_
    refine e_move rfl rfl ?_
    refine e_nil ?_
    refine ⟨_, [(0, u (n / 256 ^ (i + 1))), (1, ii k), (5, sv (lowl n (i + 1))), (6, ii k), (7, ii (i + 1))], [], ?_, ⟨by rw [Nat.pow_succ, ← Nat.div_div_eq_div_mul]; rfl, rfl, by rw [← lowl_succ]; rfl, rfl, rfl, trivial⟩, trivial, i + 1, rfl, rfl, rfl, by omega⟩
    omega
  · intro hc0
    have hc0 := of_decide_eq_false hc0
    have hik : i = k := by omega
    subst hik
    refine e_exit ?_
    refine e_seq ?_
    refine e_plain ?_
    refine e_move rfl rfl ?_
    refine e_assign rfl rfl ?_
    refine e_nil ?_
    refine e_ret ?_
    exact ⟨_, rfl, .tmp rfl⟩

set_option maxHeartbeats 400000 in
theorem number_fn (l : List Nat) (hl : l.length ≤ 8) (hb : ∀ b ∈ l, b < 256) : Fn Try.prog G 19 #[sv l] (u (leN l)) := by
  refine fn1 (n := 20) Try.func19 rfl rfl (by simp) (argE [sv l] 0) (argE_ok _) ?_
  refine e_seq ?_
  refine e_plain ?_
  refine e_assign rfl rfl ?_
  refine e_nil ?_
  refine e_seq ?_
  refine e_plain ?_
  refine e_assign rfl rfl ?_
  refine e_nil ?_
  refine e_seq ?_
  refine e_seq ?_
  refine e_plain ?_
  refine e_move rfl rfl ?_
  refine e_lenStr und9 rfl rfl rfl ?_
  refine e_sub_z (q := 1) rfl rfl rfl (by omega) (by omega) ?_
  refine e_assign rfl rfl ?_
  refine e_nil ?_
  refine e_block ?_
  refine e_loop (fun kk E m => ∃ (n : Nat), kk = 2 * n ∧ E = [(0, sv l), (3, u (leN (l.drop n))), (4, .int .i64 (((n : Nat) : Int) - 1))] ∧ m = [] ∧ (n ≤ l.length)) [(0, sv l), (3, u (leN (l.drop l.length))), (4, .int .i64 (((l.length : Nat) : Int) - 1))] [] (2 * l.length) ⟨rfl, by rw [List.drop_length]; rfl, rfl, trivial⟩ trivial ⟨l.length, rfl, rfl, rfl, Nat.le_refl _⟩ ?_
  rintro kk E m ⟨n, rfl, rfl, rfl, hf0_0⟩
  refine e_seq ?_
  refine e_seq ?_
  refine e_plain ?_
  refine e_move rfl rfl ?_
  refine e_ge rfl rfl rfl ?_
  refine e_nil ?_
  refine e_cond rfl ?_ ?_
  · intro hc0
    have hc0 := of_decide_eq_true hc0
    obtain ⟨i, rfl⟩ : ∃ i, n = i + 1 := ⟨n - 1, by omega⟩
    have hsm := leN_small hl hb i
    have hbi : l[i] < 256 := hb _ (List.getElem_mem _)
    refine e_skip ?_
    refine e_seq ?_
    refine e_block ?_
    refine e_plain ?_
    refine e_move rfl rfl ?_
    refine e_mul_u (q := 256) rfl rfl rfl  ?_
    refine e_as (congrArg u (Nat.mod_eq_of_lt (show leN (l.drop (i + 1)) * 256 < 18446744073709551616 by omega))) ?_
    refine e_move rfl rfl ?_
    refine e_move rfl rfl ?_
    refine e_as (congrArg (Value.int .i64) (show ((i + 1 : Nat) : Int) - 1 = ((i : Nat) : Int) by omega)) ?_
    refine e_idxStr und9 rfl rfl (List.getElem?_eq_getElem (show i < l.length by omega)) (hb _ (List.getElem_mem _)) rfl ?_
    refine e_conv_u und5 und48 rfl rfl ?_
    refine e_as (congrArg u (Nat.mod_eq_of_lt (show l[i] < 18446744073709551616 by omega))) ?_
    refine e_add_u rfl rfl rfl  ?_
    refine e_as (congrArg u (Nat.mod_eq_of_lt (show leN (l.drop (i + 1)) * 256 + l[i] < 18446744073709551616 by omega))) ?_
    refine e_assign rfl rfl ?_
    refine e_nil ?_
    refine e_plain ?_
    refine e_move rfl rfl ?_
    refine e_sub_z (q := 1) rfl rfl rfl (by omega) (by omega) ?_
    refine e_assign rfl rfl ?_
    refine e_nil ?_
    refine ⟨_, [(0, sv l), (3, u (leN (l.drop i))), (4, .int .i64 (((i : Nat) : Int) - 1))], [], ?_, ⟨rfl, by rw [leN_drop (show i < l.length by omega)]; rfl, congrArg (fun z => some (Value.int .i64 z)) (show ((i + 1 : Nat) : Int) - 1 - 1 = ((i : Nat) : Int) - 1 by omega), trivial⟩, trivial, i, rfl, rfl, rfl, by omega⟩
    omega
  · intro hc0
    have hc0 := of_decide_eq_false hc0
    have hn0 : n = 0 := by omega
    subst hn0
    refine e_exit ?_
    refine e_seq ?_
    refine e_plain ?_
    refine e_move rfl rfl ?_
    refine e_assign rfl rfl ?_
    refine e_nil ?_
    refine e_ret ?_
    exact ⟨_, rfl, .tmp rfl⟩

end Go.Proofs.Ytmhhemhjjpdioaa
