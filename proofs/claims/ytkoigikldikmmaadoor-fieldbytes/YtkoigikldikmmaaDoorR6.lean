/-
  Walks, written by a program of ours off the loaded functions.
-/
import Derived.Test.YtkoigikldikmmaaDoorR4
import Derived.Test.YtkoigikldikmmaaDoorNum6
namespace Go.Proofs.YtkoigikldikmmaaDoor
open Go Go.RowKit


theorem ent13 : enters Tryd.prog 13 = true := by kernel_rfl
theorem ent14 : enters Tryd.prog 14 = true := by kernel_rfl
theorem ent15 : enters Tryd.prog 15 = true := by kernel_rfl
theorem ent16 : enters Tryd.prog 16 = true := by kernel_rfl
theorem ent32 : enters Tryd.prog 32 = true := by kernel_rfl
theorem eqg32 : Tryd.prog.eqGuardType Tryd.prog.depth 32 = false := by kernel_rfl

variable {G : Mem}

set_option maxHeartbeats 400000 in
theorem reduced_fn (a : Nat) (ha : a < 2 ^ 256) : Fn Tryd.prog [⟨0, arr .u64 16 (d16 PP), 42⟩] 32 #[fe a] (fe (a % PP)) := by
  refine fn1 (n := 7) Tryd.func32 rfl rfl (by simp) (argE [fe a] 0) (argE_ok _) ?_
  refine e_seq ?_
  refine e_plain ?_
  refine e_box 0 rfl rfl fun r1 => ?_
  refine e_alloc 1 zer24 rfl fun r2 => ?_
  refine e_nil ?_
  refine e_seq ?_
  refine e_plain ?_
  refine e_loadA (i := 0) und24 rfl siz24 rfl rfl (arr_size _ _ _) rfl ?_
  refine e_call rfl ent24 (of_fn _) rfl ?_
  refine e_call rfl ent36 (carried_fn (d16 a) (fun j _ => Nat.lt_trans (d16_lt a j) (by decide))) rfl ?_
  refine e_as (congrArg (fun z => dg (z % PP)) (vs_dg a ha)) ?_
  refine e_call rfl ent25 (back_fn (d16 (a % PP)) (fun j _ => d16_lt _ j)) rfl ?_
  refine e_as (congrArg fe (vs_dg (a % PP) (Nat.lt_trans (Nat.mod_lt _ (by decide)) (by decide)))) ?_
  refine e_storeA (i := 1) siz24 rfl rfl (arr_size _ _ _) arr_one rfl (arr_sz _ _ _ _ _) ?_
  refine e_nil ?_
  refine e_ret ?_
  exact ⟨_, rfl, .cell (i := 1) rfl rfl und24 rfl siz24 (arr_size _ _ _)⟩

set_option maxHeartbeats 400000 in
theorem fromBytes_fn (f : Nat → Nat) (hf : ∀ j, j < 32 → f j < 256) : Fn Tryd.prog [⟨0, arr .u64 16 (d16 PP), 42⟩] 16 #[.agg (arr .u8 32 f)] (fe (vb f 32 % 2 ^ 255 % PP)) := by
  refine fn1 (n := 30) Tryd.func16 rfl rfl (by simp) (argE [.agg (arr .u8 32 f)] 0) (argE_ok _) ?_
  refine e_seq ?_
  refine e_plain ?_
  refine e_box 0 rfl rfl fun r1 => ?_
  refine e_alloc 1 zer24 rfl fun r2 => ?_
  refine e_nil ?_
  refine e_seq ?_
  refine e_plain ?_
  refine e_alloc 2 zer24 rfl fun r3 => ?_
  refine e_nil ?_
  refine e_seq ?_
  refine e_seq ?_
  refine e_plain ?_
  refine e_assign rfl rfl ?_
  refine e_nil ?_
  refine e_block ?_
  refine e_loop (fun kk E m => ∃ (n : Nat) (s : Nat → Nat), kk = 2 * n ∧ E = [(1, ptr r1), (2, ptr r2), (3, ptr r3), (4, .int .i64 (((n : Nat) : Int) - 1))] ∧ m = [(0, ⟨r1, arr .u8 32 f, 32⟩), (1, ⟨r2, arr .u64 4 (fun _ => 0), 24⟩), (2, ⟨r3, arr .u64 4 s, 24⟩)] ∧ (n ≤ 32) ∧ (∀ j, j < 4 → s j = wd (vb f 32 % 2 ^ 255) j / 2 ^ (8 * (n - 8 * j)))) [(1, ptr r1), (2, ptr r2), (3, ptr r3), (4, .int .i64 (((32 : Nat) : Int) - 1))] [(0, ⟨r1, arr .u8 32 f, 32⟩), (1, ⟨r2, arr .u64 4 (fun _ => 0), 24⟩), (2, ⟨r3, arr .u64 4 (fun _ => 0), 24⟩)] (2 * 32) ⟨rfl, rfl, rfl, rfl, trivial⟩ ⟨rfl, rfl, rfl, trivial⟩ ⟨32, fun _ => 0, rfl, rfl, rfl, by omega, down_start (vb f 32 % 2 ^ 255)⟩ ?_
  rintro kk E m ⟨n, s, rfl, rfl, rfl, hf0_0, hf0_1⟩
  refine e_seq ?_
  refine e_seq ?_
  refine e_plain ?_
  refine e_move rfl rfl ?_
  refine e_ge rfl rfl rfl ?_
  refine e_nil ?_
  refine e_cond rfl ?_ ?_
  · intro hc0
    have hc0 := of_decide_eq_true hc0
    obtain ⟨i, rfl⟩ : ∃ i, n = i + 1 := ⟨n - 1, by omega⟩
    have hfi := hf i (by omega)
    refine e_skip ?_
    refine e_seq ?_
    refine e_block ?_
    refine e_seq ?_
    refine e_plain ?_
    refine e_move rfl rfl ?_
    refine e_as (congrArg (Value.int .i64) (show ((i + 1 : Nat) : Int) - 1 = ((i : Nat) : Int) by omega)) ?_
    refine e_index0 und32 siz5 rfl rfl (by omega) rfl ?_
    refine e_load1 (i := 0) und5 rfl rfl rfl (arr_get (by omega)) rfl ?_
    refine e_conv_u und5 und22 rfl rfl ?_
    refine e_as (congrArg u (Nat.mod_eq_of_lt (show f i < 18446744073709551616 by omega))) ?_
    refine e_assign rfl rfl ?_
    refine e_nil ?_
    refine e_seq ?_
    refine e_seq ?_
    refine e_plain ?_
    refine e_move rfl rfl ?_
    refine e_as (congrArg (Value.int .i64) (show ((i + 1 : Nat) : Int) - 1 = ((i : Nat) : Int) by omega)) ?_
    refine e_eq rfl rfl rfl ?_
    refine e_nil ?_
    refine e_cond rfl ?_ ?_
    · intro hc1
      have hc1 := of_decide_eq_true hc1
      have hby : f i % 128 = bt (vb f 32 % 2 ^ 255) i := byte_top hf (by omega)
      refine e_plain ?_
      refine e_move rfl rfl ?_
      refine e_rem_u (q := 128) rfl rfl rfl (by omega) ?_
      refine e_assign rfl rfl ?_
      refine e_nil ?_
      refine e_plain ?_
      refine e_move rfl rfl ?_
      refine e_as (congrArg (Value.int .i64) (show ((i + 1 : Nat) : Int) - 1 = ((i : Nat) : Int) by omega)) ?_
      refine e_quo_i (q := 8) rfl rfl rfl (by omega) (by omega) ?_
      refine e_move rfl rfl ?_
      refine e_as (congrArg (Value.int .i64) (show ((i + 1 : Nat) : Int) - 1 = ((i : Nat) : Int) by omega)) ?_
      refine e_quo_i (q := 8) rfl rfl rfl (by omega) (by omega) ?_
      refine e_index0 und24 siz22 rfl rfl (by omega) rfl ?_
      refine e_load1 (i := 2) und22 rfl rfl rfl (arr_get (by omega)) rfl ?_
      refine e_as (congrArg u (hf0_1 (i / 8) (by omega))) ?_
      refine e_mul_u (q := 256) rfl rfl rfl  ?_
      refine e_move rfl rfl ?_
      refine e_as (congrArg u hby) ?_
      refine e_add_u rfl rfl rfl  ?_
      refine e_as (congrArg u (down_word (vb f 32 % 2 ^ 255) i)) ?_
      refine e_index0 und24 siz22 rfl rfl (by omega) rfl ?_
      refine e_storeN (i := 2) siz22 rfl rfl rfl (by omega) ?_
      refine e_nil ?_
      refine e_plain ?_
      refine e_move rfl rfl ?_
      refine e_sub_z (q := 1) rfl rfl rfl (by omega) (by omega) ?_
      refine e_assign rfl rfl ?_
      refine e_nil ?_
      refine ⟨_, [(1, ptr r1), (2, ptr r2), (3, ptr r3), (4, .int .i64 (((i : Nat) : Int) - 1))], [(0, ⟨r1, arr .u8 32 f, 32⟩), (1, ⟨r2, arr .u64 4 (fun _ => 0), 24⟩), (2, ⟨r3, arr .u64 4 (upd s (i / 8) (wd (vb f 32 % 2 ^ 255) (i / 8) / 2 ^ (8 * (i - 8 * (i / 8))))), 24⟩)], ?_, ⟨rfl, rfl, rfl, congrArg (fun z => some (Value.int .i64 z)) (show ((i + 1 : Nat) : Int) - 1 - 1 = ((i : Nat) : Int) - 1 by omega), trivial⟩, ⟨rfl, rfl, rfl, trivial⟩, i, upd s (i / 8) (wd (vb f 32 % 2 ^ 255) (i / 8) / 2 ^ (8 * (i - 8 * (i / 8)))), rfl, rfl, rfl, by omega, down_next hf0_1⟩
      omega
    · intro hc1
      have hc1 := of_decide_eq_false hc1
      have hby : f i = bt (vb f 32 % 2 ^ 255) i := byte_low hf (by omega)
      refine e_skip ?_
      refine e_plain ?_
      refine e_move rfl rfl ?_
      refine e_as (congrArg (Value.int .i64) (show ((i + 1 : Nat) : Int) - 1 = ((i : Nat) : Int) by omega)) ?_
      refine e_quo_i (q := 8) rfl rfl rfl (by omega) (by omega) ?_
      refine e_move rfl rfl ?_
      refine e_as (congrArg (Value.int .i64) (show ((i + 1 : Nat) : Int) - 1 = ((i : Nat) : Int) by omega)) ?_
      refine e_quo_i (q := 8) rfl rfl rfl (by omega) (by omega) ?_
      refine e_index0 und24 siz22 rfl rfl (by omega) rfl ?_
      refine e_load1 (i := 2) und22 rfl rfl rfl (arr_get (by omega)) rfl ?_
      refine e_as (congrArg u (hf0_1 (i / 8) (by omega))) ?_
      refine e_mul_u (q := 256) rfl rfl rfl  ?_
      refine e_move rfl rfl ?_
      refine e_as (congrArg u hby) ?_
      refine e_add_u rfl rfl rfl  ?_
      refine e_as (congrArg u (down_word (vb f 32 % 2 ^ 255) i)) ?_
      refine e_index0 und24 siz22 rfl rfl (by omega) rfl ?_
      refine e_storeN (i := 2) siz22 rfl rfl rfl (by omega) ?_
      refine e_nil ?_
      refine e_plain ?_
      refine e_move rfl rfl ?_
      refine e_sub_z (q := 1) rfl rfl rfl (by omega) (by omega) ?_
      refine e_assign rfl rfl ?_
      refine e_nil ?_
      refine ⟨_, [(1, ptr r1), (2, ptr r2), (3, ptr r3), (4, .int .i64 (((i : Nat) : Int) - 1))], [(0, ⟨r1, arr .u8 32 f, 32⟩), (1, ⟨r2, arr .u64 4 (fun _ => 0), 24⟩), (2, ⟨r3, arr .u64 4 (upd s (i / 8) (wd (vb f 32 % 2 ^ 255) (i / 8) / 2 ^ (8 * (i - 8 * (i / 8))))), 24⟩)], ?_, ⟨rfl, rfl, rfl, congrArg (fun z => some (Value.int .i64 z)) (show ((i + 1 : Nat) : Int) - 1 - 1 = ((i : Nat) : Int) - 1 by omega), trivial⟩, ⟨rfl, rfl, rfl, trivial⟩, i, upd s (i / 8) (wd (vb f 32 % 2 ^ 255) (i / 8) / 2 ^ (8 * (i - 8 * (i / 8)))), rfl, rfl, rfl, by omega, down_next hf0_1⟩
      omega
  · intro hc0
    have hc0 := of_decide_eq_false hc0
    have hn0 : n = 0 := by omega
    subst hn0
    refine e_exit ?_
    refine e_seq ?_
    refine e_plain ?_
    refine e_loadA (i := 2) und24 rfl siz24 rfl rfl (arr_size _ _ _) rfl ?_
    refine e_as (fe_of (down_end hf0_1)).symm ?_
    refine e_call rfl ent32 (reduced_fn (vb f 32 % 2 ^ 255) (Nat.lt_trans (Nat.mod_lt _ (Nat.pow_pos (by decide))) (by decide))) rfl ?_
    refine e_storeA (i := 1) siz24 rfl rfl (arr_size _ _ _) arr_one rfl (arr_sz _ _ _ _ _) ?_
    refine e_nil ?_
    refine e_ret ?_
    exact ⟨_, rfl, .cell (i := 1) rfl rfl und24 rfl siz24 (arr_size _ _ _)⟩

set_option maxHeartbeats 400000 in
theorem bytesOf_ok (a : Nat) (ha : a < PP) : Fn Tryd.prog [⟨0, arr .u64 16 (d16 PP), 42⟩] 15 #[fe a] (.tuple #[by32 a, ii 0]) := by
  have hPP := PP_eq
  refine fn2 (n := 31) Tryd.func15 rfl rfl (by simp) (argE [fe a] 0) (argE_ok _) ?_
  refine e_seq ?_
  refine e_plain ?_
  refine e_box 0 rfl rfl fun r1 => ?_
  refine e_alloc 1 zer32 rfl fun r2 => ?_
  refine e_assign rfl rfl ?_
  refine e_nil ?_
  refine e_seq ?_
  refine e_plain ?_
  refine e_alloc 2 zer32 rfl fun r3 => ?_
  refine e_nil ?_
  refine e_seq ?_
  refine e_seq ?_
  refine e_plain ?_
  refine e_loadA (i := 0) und24 rfl siz24 rfl rfl (arr_size _ _ _) rfl ?_
  refine e_call rfl ent23 (in_fn _ (by omega)) rfl ?_
  refine e_not rfl rfl ?_
  refine e_as (congrArg Value.bool (show (!decide (a < PP)) = false by simp [ha])) ?_
  refine e_nil ?_
  refine e_cond rfl ?_ ?_
  · intro hc0
    cases hc0
  · intro hc0
    refine e_skip ?_
    refine e_seq ?_
    refine e_seq ?_
    refine e_plain ?_
    refine e_loadA (i := 0) und24 rfl siz24 rfl rfl (arr_size _ _ _) rfl ?_
    refine e_call rfl ent24 (of_fn _) rfl ?_
    refine e_move rfl rfl ?_
    refine e_nil ?_
    refine e_block ?_
    refine e_loop (fun kk E m => ∃ (k : Nat) (s : Nat → Nat), kk = 16 - k ∧ E = [(1, ptr r1), (2, ptr r2), (4, ptr r3), (12, .agg (arr .u64 16 (d16 a))), (13, ii k)] ∧ m = [(0, ⟨r1, arr .u64 4 (wd a), 24⟩), (1, ⟨r2, arr .u8 32 (fun _ => 0), 32⟩), (2, ⟨r3, arr .u8 32 s, 32⟩)] ∧ (k ≤ 16) ∧ (∀ j, j < 2 * k → s j = bt a j)) [(1, ptr r1), (2, ptr r2), (4, ptr r3), (12, .agg (arr .u64 16 (d16 a))), (13, ii 0)] [(0, ⟨r1, arr .u64 4 (wd a), 24⟩), (1, ⟨r2, arr .u8 32 (fun _ => 0), 32⟩), (2, ⟨r3, arr .u8 32 (fun _ => 0), 32⟩)] (16 - 0) ⟨rfl, rfl, rfl, rfl, rfl, trivial⟩ ⟨rfl, rfl, rfl, trivial⟩ ⟨0, fun _ => 0, rfl, rfl, rfl, by omega, fun j hj => absurd hj (Nat.not_lt_zero j)⟩ ?_
    rintro kk E m ⟨k, s, rfl, rfl, rfl, hf0_0, hf0_1⟩
    have hdk := d16_lt a k
    refine e_seq ?_
    refine e_plain ?_
    refine e_lt rfl rfl rfl ?_
    refine e_nil ?_
    refine e_seq ?_
    refine e_cond rfl ?_ ?_
    · intro hc1
      have hc1 := of_decide_eq_true hc1
      refine e_skip ?_
      refine e_seq ?_
      refine e_block ?_
      refine e_seq ?_
      refine e_plain ?_
      refine e_move rfl rfl ?_
      refine e_idx und42 und22 siz22 rfl rfl (by omega) rfl ?_
      refine e_assign rfl rfl ?_
      refine e_assign rfl rfl ?_
      refine e_nil ?_
      refine e_plain ?_
      refine e_move rfl rfl ?_
      refine e_mul_i (p := 2) rfl rfl rfl (by omega) ?_
      refine e_move rfl rfl ?_
      refine e_mul_i (p := 2) rfl rfl rfl (by omega) ?_
      refine e_add_i (q := 1) rfl rfl rfl (by omega) ?_
      refine e_move rfl rfl ?_
      refine e_conv_u8 und22 und5 rfl rfl ?_
      refine e_move rfl rfl ?_
      refine e_quo_u (q := 256) rfl rfl rfl (by omega) (by omega) ?_
      refine e_conv_u8 und22 und5 rfl rfl ?_
      refine e_index0 und32 siz5 rfl rfl (by omega) rfl ?_
      refine e_storeN (i := 2) siz5 rfl rfl rfl (by omega) ?_
      refine e_index0 und32 siz5 rfl rfl (by omega) rfl ?_
      refine e_storeN (i := 2) siz5 rfl rfl rfl (by omega) ?_
      refine e_nil ?_
      refine e_plain ?_
      refine e_add_i (q := 1) rfl rfl rfl (by omega) ?_
      refine e_move rfl rfl ?_
      refine e_nil ?_
      refine ⟨_, [(1, ptr r1), (2, ptr r2), (4, ptr r3), (12, .agg (arr .u64 16 (d16 a))), (13, ii (k + 1))], [(0, ⟨r1, arr .u64 4 (wd a), 24⟩), (1, ⟨r2, arr .u8 32 (fun _ => 0), 32⟩), (2, ⟨r3, arr .u8 32 (upd (upd s (2 * k) _) (2 * k + 1) _), 32⟩)], ?_, ⟨rfl, rfl, rfl, rfl, rfl, trivial⟩, ⟨rfl, rfl, rfl, trivial⟩, k + 1, upd (upd s (2 * k) _) (2 * k + 1) _, rfl, rfl, rfl, by omega, upd_lt (g := bt a) (upd_lt (g := bt a) hf0_1 (even_byte a k)) (odd_byte a k)⟩
      omega
    · intro hc1
      have hc1 := of_decide_eq_false hc1
      have hk : k = 16 := by omega
      subst hk
      refine e_exit ?_
      refine e_seq ?_
      refine e_plain ?_
      refine e_loadA (i := 2) und32 rfl siz32 rfl rfl (arr_size _ _ _) rfl ?_
      refine e_storeA (i := 1) siz32 rfl rfl (arr_size _ _ _) arr_one rfl (arr_sz _ _ _ _ _) ?_
      refine e_assign rfl rfl ?_
      refine e_nil ?_
      refine e_ret ?_
      rw [← by_congr hf0_1]
      exact ⟨_, _, rfl, .cell (i := 1) rfl rfl und32 rfl siz32 (arr_size _ _ _), .tmp rfl⟩

set_option maxHeartbeats 400000 in
theorem bytesOf_bad (a : Nat) (ha : ¬ a < PP) (ha2 : a < 2 ^ 256) : Fn Tryd.prog [⟨0, arr .u64 16 (d16 PP), 42⟩] 15 #[fe a] (.tuple #[.agg (arr .u8 32 (fun _ => 0)), ii 6]) := by
  have hPP := PP_eq
  refine fn2 (n := 31) Tryd.func15 rfl rfl (by simp) (argE [fe a] 0) (argE_ok _) ?_
  refine e_seq ?_
  refine e_plain ?_
  refine e_box 0 rfl rfl fun r1 => ?_
  refine e_alloc 1 zer32 rfl fun r2 => ?_
  refine e_assign rfl rfl ?_
  refine e_nil ?_
  refine e_seq ?_
  refine e_plain ?_
  refine e_alloc 2 zer32 rfl fun r3 => ?_
  refine e_nil ?_
  refine e_seq ?_
  refine e_seq ?_
  refine e_plain ?_
  refine e_loadA (i := 0) und24 rfl siz24 rfl rfl (arr_size _ _ _) rfl ?_
  refine e_call rfl ent23 (in_fn _ (by omega)) rfl ?_
  refine e_not rfl rfl ?_
  refine e_as (congrArg Value.bool (show (!decide (a < PP)) = true by simp [ha])) ?_
  refine e_nil ?_
  refine e_cond rfl ?_ ?_
  · intro hc0
    refine e_seq ?_
    refine e_plain ?_
    refine e_loadA (i := 2) und32 rfl siz32 rfl rfl (arr_size _ _ _) rfl ?_
    refine e_storeA (i := 1) siz32 rfl rfl (arr_size _ _ _) arr_one rfl (arr_sz _ _ _ _ _) ?_
    refine e_assign rfl rfl ?_
    refine e_nil ?_
    refine e_ret ?_
    exact ⟨_, _, rfl, .cell (i := 1) rfl rfl und32 rfl siz32 (arr_size _ _ _), .tmp rfl⟩
  · intro hc0
    cases hc0

set_option maxHeartbeats 400000 in
theorem byts_ok (a : Nat) (f : Nat → Nat) (ha : a < PP) (hf : ∀ j, j < 32 → f j < 256) : Fn Tryd.prog [⟨0, arr .u64 16 (d16 PP), 42⟩] 6 #[fe a, .agg (arr .u8 32 f)] (.bool true) := by
  refine fn1 (n := 38) Tryd.func6 rfl rfl (by simp) (argE [fe a, .agg (arr .u8 32 f)] 0) (argE_ok _) ?_
  refine e_seq ?_
  refine e_plain ?_
  refine e_box 0 rfl rfl fun r1 => ?_
  refine e_box 1 rfl rfl fun r2 => ?_
  refine e_assign rfl rfl ?_
  refine e_nil ?_
  refine e_seq ?_
  refine e_plain ?_
  refine e_loadA (i := 0) und24 rfl siz24 rfl rfl (arr_size _ _ _) rfl ?_
  refine e_call rfl ent13 (bytes_ok a ha) rfl ?_
  refine e_move rfl rfl ?_
  refine e_extract rfl rfl rfl ?_
  refine e_extract rfl rfl rfl ?_
  refine e_alloc 2 zer32 rfl fun r3 => ?_
  refine e_storeA (i := 2) siz32 rfl rfl (arr_size _ _ _) arr_one rfl (arr_sz _ _ _ _ _) ?_
  refine e_assign rfl rfl ?_
  refine e_nil ?_
  refine e_seq ?_
  refine e_plain ?_
  refine e_loadA (i := 1) und32 rfl siz32 rfl rfl (arr_size _ _ _) rfl ?_
  refine e_call rfl ent14 (from_fn f hf) rfl ?_
  refine e_alloc 3 zer24 rfl fun r4 => ?_
  refine e_storeA (i := 3) siz24 rfl rfl (arr_size _ _ _) arr_one rfl (arr_sz _ _ _ _ _) ?_
  refine e_nil ?_
  refine e_seq ?_
  refine e_plain ?_
  refine e_loadA (i := 0) und24 rfl siz24 rfl rfl (arr_size _ _ _) rfl ?_
  refine e_call rfl ent15 (bytesOf_ok a ha) rfl ?_
  refine e_move rfl rfl ?_
  refine e_extract rfl rfl rfl ?_
  refine e_extract rfl rfl rfl ?_
  refine e_alloc 4 zer32 rfl fun r5 => ?_
  refine e_storeA (i := 4) siz32 rfl rfl (arr_size _ _ _) arr_one rfl (arr_sz _ _ _ _ _) ?_
  refine e_assign rfl rfl ?_
  refine e_nil ?_
  refine e_seq ?_
  refine e_plain ?_
  refine e_loadA (i := 1) und32 rfl siz32 rfl rfl (arr_size _ _ _) rfl ?_
  refine e_call rfl ent16 (fromBytes_fn f hf) rfl ?_
  refine e_alloc 5 zer24 rfl fun r6 => ?_
  refine e_storeA (i := 5) siz24 rfl rfl (arr_size _ _ _) arr_one rfl (arr_sz _ _ _ _ _) ?_
  refine e_nil ?_
  refine e_seq ?_
  refine e_plain ?_
  refine e_loadA (i := 2) und32 rfl siz32 rfl rfl (arr_size _ _ _) rfl ?_
  refine e_loadA (i := 4) und32 rfl siz32 rfl rfl (arr_size _ _ _) rfl ?_
  refine e_eqA und32 und5 siz5 eqg32 rfl rfl rfl ?_
  refine e_as (congrArg Value.bool (allEq_iff.2 (fun _ _ => rfl))) ?_
  refine e_move rfl rfl ?_
  refine e_yes rfl rfl rfl ?_
  refine e_move rfl rfl ?_
  refine e_yes rfl rfl rfl ?_
  refine e_move rfl rfl ?_
  refine e_yes rfl rfl rfl ?_
  refine e_eq rfl rfl rfl ?_
  refine e_as (congrArg Value.bool (decide_eq_true rfl)) ?_
  refine e_pickT rfl rfl rfl rfl ?_
  refine e_move rfl rfl ?_
  refine e_yes rfl rfl rfl ?_
  refine e_loadA (i := 3) und24 rfl siz24 rfl rfl (arr_size _ _ _) rfl ?_
  refine e_yes rfl rfl rfl ?_
  refine e_loadA (i := 5) und24 rfl siz24 rfl rfl (arr_size _ _ _) rfl ?_
  refine e_yes rfl rfl rfl ?_
  refine e_eqA und24 und22 siz22 eqg24 rfl rfl rfl ?_
  refine e_as (congrArg Value.bool (allEq_iff.2 (fun _ _ => rfl))) ?_
  refine e_pickT rfl rfl rfl rfl ?_
  refine e_assign rfl rfl ?_
  refine e_nil ?_
  refine e_ret ?_
  exact ⟨_, rfl, .tmp rfl⟩

set_option maxHeartbeats 400000 in
theorem byts_bad (a : Nat) (f : Nat → Nat) (ha : ¬ a < PP) (ha2 : a < 2 ^ 256) (hf : ∀ j, j < 32 → f j < 256) : Fn Tryd.prog [⟨0, arr .u64 16 (d16 PP), 42⟩] 6 #[fe a, .agg (arr .u8 32 f)] (.bool true) := by
  refine fn1 (n := 38) Tryd.func6 rfl rfl (by simp) (argE [fe a, .agg (arr .u8 32 f)] 0) (argE_ok _) ?_
  refine e_seq ?_
  refine e_plain ?_
  refine e_box 0 rfl rfl fun r1 => ?_
  refine e_box 1 rfl rfl fun r2 => ?_
  refine e_assign rfl rfl ?_
  refine e_nil ?_
  refine e_seq ?_
  refine e_plain ?_
  refine e_loadA (i := 0) und24 rfl siz24 rfl rfl (arr_size _ _ _) rfl ?_
  refine e_call rfl ent13 (bytes_bad a ha2 ha) rfl ?_
  refine e_move rfl rfl ?_
  refine e_extract rfl rfl rfl ?_
  refine e_extract rfl rfl rfl ?_
  refine e_alloc 2 zer32 rfl fun r3 => ?_
  refine e_storeA (i := 2) siz32 rfl rfl (arr_size _ _ _) arr_one rfl (arr_sz _ _ _ _ _) ?_
  refine e_assign rfl rfl ?_
  refine e_nil ?_
  refine e_seq ?_
  refine e_plain ?_
  refine e_loadA (i := 1) und32 rfl siz32 rfl rfl (arr_size _ _ _) rfl ?_
  refine e_call rfl ent14 (from_fn f hf) rfl ?_
  refine e_alloc 3 zer24 rfl fun r4 => ?_
  refine e_storeA (i := 3) siz24 rfl rfl (arr_size _ _ _) arr_one rfl (arr_sz _ _ _ _ _) ?_
  refine e_nil ?_
  refine e_seq ?_
  refine e_plain ?_
  refine e_loadA (i := 0) und24 rfl siz24 rfl rfl (arr_size _ _ _) rfl ?_
  refine e_call rfl ent15 (bytesOf_bad a ha ha2) rfl ?_
  refine e_move rfl rfl ?_
  refine e_extract rfl rfl rfl ?_
  refine e_extract rfl rfl rfl ?_
  refine e_alloc 4 zer32 rfl fun r5 => ?_
  refine e_storeA (i := 4) siz32 rfl rfl (arr_size _ _ _) arr_one rfl (arr_sz _ _ _ _ _) ?_
  refine e_assign rfl rfl ?_
  refine e_nil ?_
  refine e_seq ?_
  refine e_plain ?_
  refine e_loadA (i := 1) und32 rfl siz32 rfl rfl (arr_size _ _ _) rfl ?_
  refine e_call rfl ent16 (fromBytes_fn f hf) rfl ?_
  refine e_alloc 5 zer24 rfl fun r6 => ?_
  refine e_storeA (i := 5) siz24 rfl rfl (arr_size _ _ _) arr_one rfl (arr_sz _ _ _ _ _) ?_
  refine e_nil ?_
  refine e_seq ?_
  refine e_plain ?_
  refine e_loadA (i := 2) und32 rfl siz32 rfl rfl (arr_size _ _ _) rfl ?_
  refine e_loadA (i := 4) und32 rfl siz32 rfl rfl (arr_size _ _ _) rfl ?_
  refine e_eqA und32 und5 siz5 eqg32 rfl rfl rfl ?_
  refine e_as (congrArg Value.bool (allEq_iff.2 (fun _ _ => rfl))) ?_
  refine e_move rfl rfl ?_
  refine e_yes rfl rfl rfl ?_
  refine e_move rfl rfl ?_
  refine e_yes rfl rfl rfl ?_
  refine e_move rfl rfl ?_
  refine e_yes rfl rfl rfl ?_
  refine e_eq rfl rfl rfl ?_
  refine e_as (congrArg Value.bool (decide_eq_true rfl)) ?_
  refine e_pickT rfl rfl rfl rfl ?_
  refine e_move rfl rfl ?_
  refine e_yes rfl rfl rfl ?_
  refine e_loadA (i := 3) und24 rfl siz24 rfl rfl (arr_size _ _ _) rfl ?_
  refine e_yes rfl rfl rfl ?_
  refine e_loadA (i := 5) und24 rfl siz24 rfl rfl (arr_size _ _ _) rfl ?_
  refine e_yes rfl rfl rfl ?_
  refine e_eqA und24 und22 siz22 eqg24 rfl rfl rfl ?_
  refine e_as (congrArg Value.bool (allEq_iff.2 (fun _ _ => rfl))) ?_
  refine e_pickT rfl rfl rfl rfl ?_
  refine e_assign rfl rfl ?_
  refine e_nil ?_
  refine e_ret ?_
  exact ⟨_, rfl, .tmp rfl⟩

end Go.Proofs.YtkoigikldikmmaaDoor
