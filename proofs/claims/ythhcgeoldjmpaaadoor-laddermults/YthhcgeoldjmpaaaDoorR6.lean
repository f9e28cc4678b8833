/-
  Walks, written by a program of ours off the loaded functions.
-/
import Derived.Test.YthhcgeoldjmpaaaDoorR5
import Derived.Test.YthhcgeoldjmpaaaDoorNum6
namespace Go.Proofs.YthhcgeoldjmpaaaDoor
open Go Go.RowKit


theorem ent19 : enters Tryd.prog 19 = true := by kernel_rfl
theorem ent31 : enters Tryd.prog 31 = true := by kernel_rfl
theorem ent32 : enters Tryd.prog 32 = true := by kernel_rfl

variable {G : Mem}

set_option maxHeartbeats 400000 in
theorem reduced_fn (a : Nat) (ha : a < 2 ^ 256) : Fn Tryd.prog [⟨0, arr .u64 16 (d16 PP), 41⟩] 31 #[fe a] (fe (a % PP)) := by
  refine fn1 (n := 7) Tryd.func31 rfl rfl (by simp) (argE [fe a] 0) (argE_ok _) ?_
  refine e_seq ?_
  refine e_plain ?_
  refine e_box 0 rfl rfl fun r1 => ?_
  refine e_alloc 1 zer31 rfl fun r2 => ?_
  refine e_nil ?_
  refine e_seq ?_
  refine e_plain ?_
  refine e_loadA (i := 0) und31 rfl siz31 rfl rfl (arr_size _ _ _) rfl ⟨[], trivial⟩ ?_
  refine e_call rfl ent16 (of_fn _) rfl rfl ?_
  refine e_call rfl ent33 (carried_fn (d16 a) (fun j _ => Nat.lt_trans (d16_lt a j) (by decide))) rfl rfl ?_
  refine e_as (congrArg (fun z => dg (z % PP)) (vs_dg a ha)) ?_
  refine e_call rfl ent19 (back_fn (d16 (a % PP)) (fun j _ => d16_lt _ j)) rfl rfl ?_
  refine e_as (congrArg fe (vs_dg (a % PP) (Nat.lt_trans (Nat.mod_lt _ (by decide)) (by decide)))) ?_
  refine e_storeA (i := 1) siz31 rfl rfl (arr_size _ _ _) arr_one rfl (arr_sz _ _ _ _ _) (.inl rfl) ?_
  refine e_nil ?_
  refine e_ret ?_
  exact ⟨_, rfl, .cell (i := 1) rfl rfl und31 rfl siz31 (arr_size _ _ _)⟩

set_option maxHeartbeats 400000 in
theorem fromBytes_fn (f : Nat → Nat) (hf : ∀ j, j < 32 → f j < 256) : Fn Tryd.prog [⟨0, arr .u64 16 (d16 PP), 41⟩] 17 #[.agg (arr .u8 32 f)] (fe (vb f 32 % 2 ^ 255 % PP)) := by
  refine fn1 (n := 30) Tryd.func17 rfl rfl (by simp) (argE [.agg (arr .u8 32 f)] 0) (argE_ok _) ?_
  refine e_seq ?_
  refine e_plain ?_
  refine e_box 0 rfl rfl fun r1 => ?_
  refine e_alloc 1 zer31 rfl fun r2 => ?_
  refine e_nil ?_
  refine e_seq ?_
  refine e_plain ?_
  refine e_alloc 2 zer31 rfl fun r3 => ?_
  refine e_nil ?_
  refine e_seq ?_
  refine e_seq ?_
  refine e_plain ?_
  refine e_assign rfl rfl ?_
  refine e_nil ?_
  refine e_block ?_
  refine e_loop (fun kk E m => ∃ (n : Nat) (s : Nat → Nat), kk = 2 * n ∧ E = [(1, ptr r1), (2, ptr r2), (3, ptr r3), (4, .int .i64 (((n : Nat) : Int) - 1))] ∧ m = [(0, ⟨r1, arr .u8 32 f, 22⟩), (1, ⟨r2, arr .u64 4 (fun _ => 0), 31⟩), (2, ⟨r3, arr .u64 4 s, 31⟩)] ∧ (n ≤ 32) ∧ (∀ j, j < 4 → s j = wd (vb f 32 % 2 ^ 255) j / 2 ^ (8 * (n - 8 * j)))) [(1, ptr r1), (2, ptr r2), (3, ptr r3), (4, .int .i64 (((32 : Nat) : Int) - 1))] [(0, ⟨r1, arr .u8 32 f, 22⟩), (1, ⟨r2, arr .u64 4 (fun _ => 0), 31⟩), (2, ⟨r3, arr .u64 4 (fun _ => 0), 31⟩)] (2 * 32) ⟨rfl, rfl, rfl, rfl, trivial⟩ ⟨rfl, rfl, rfl, trivial⟩ ⟨32, fun _ => 0, rfl, rfl, rfl, by omega, down_start (vb f 32 % 2 ^ 255)⟩ ?_
  rintro kk E m ⟨n, s, rfl, rfl, rfl, hf0_0, hf0_1⟩
  refine e_seq ?_
  refine e_seq ?_
  refine e_plain ?_
  refine e_move rfl rfl ?_
  refine e_ge rfl rfl rfl ?_
  refine e_nil ?_
  refine e_cond rfl ?_ ?_
  · intro hc0
    have hc0 := of_decide_eq_true hc0
    obtain ⟨i, rfl⟩ : ∃ i, n = i + 1 := ⟨n - 1, by omega⟩
    have hfi := hf i (by omega)
    refine e_skip ?_
    refine e_seq ?_
    refine e_block ?_
    refine e_seq ?_
    refine e_plain ?_
    refine e_move rfl rfl ?_
    refine e_as (congrArg (Value.int .i64) (show ((i + 1 : Nat) : Int) - 1 = ((i : Nat) : Int) by omega)) ?_
    refine e_index0 und22 siz5 rfl rfl (by omega) rfl ?_
    refine e_load1 (i := 0) und5 rfl rfl rfl (arr_get (by omega)) rfl ⟨[], trivial⟩ ?_
    refine e_conv_u und5 und29 rfl rfl ?_
    refine e_as (congrArg u (Nat.mod_eq_of_lt (show f i < 18446744073709551616 by omega))) ?_
    refine e_assign rfl rfl ?_
    refine e_nil ?_
    refine e_seq ?_
    refine e_seq ?_
    refine e_plain ?_
    refine e_move rfl rfl ?_
    refine e_as (congrArg (Value.int .i64) (show ((i + 1 : Nat) : Int) - 1 = ((i : Nat) : Int) by omega)) ?_
    refine e_eq rfl rfl rfl ?_
    refine e_nil ?_
    refine e_cond rfl ?_ ?_
    · intro hc1
      have hc1 := of_decide_eq_true hc1
      have hby : f i % 128 = bt (vb f 32 % 2 ^ 255) i := byte_top hf (by omega)
      refine e_plain ?_
      refine e_move rfl rfl ?_
      refine e_rem_u (q := 128) rfl rfl rfl (by omega) ?_
      refine e_assign rfl rfl ?_
      refine e_nil ?_
      refine e_plain ?_
      refine e_move rfl rfl ?_
      refine e_as (congrArg (Value.int .i64) (show ((i + 1 : Nat) : Int) - 1 = ((i : Nat) : Int) by omega)) ?_
      refine e_quo_i (q := 8) rfl rfl rfl (by omega) (by omega) ?_
      refine e_move rfl rfl ?_
      refine e_as (congrArg (Value.int .i64) (show ((i + 1 : Nat) : Int) - 1 = ((i : Nat) : Int) by omega)) ?_
      refine e_quo_i (q := 8) rfl rfl rfl (by omega) (by omega) ?_
      refine e_index0 und31 siz29 rfl rfl (by omega) rfl ?_
      refine e_load1 (i := 2) und29 rfl rfl rfl (arr_get (by omega)) rfl ⟨[], trivial⟩ ?_
      refine e_as (congrArg u (hf0_1 (i / 8) (by omega))) ?_
      refine e_mul_u (q := 256) rfl rfl rfl  ?_
      refine e_move rfl rfl ?_
      refine e_as (congrArg u hby) ?_
      refine e_add_u rfl rfl rfl  ?_
      refine e_as (congrArg u (down_word (vb f 32 % 2 ^ 255) i)) ?_
      refine e_index0 und31 siz29 rfl rfl (by omega) rfl ?_
      refine e_storeN (i := 2) siz29 rfl rfl rfl (by omega) (.inl rfl) ?_
      refine e_nil ?_
      refine e_plain ?_
      refine e_move rfl rfl ?_
      refine e_sub_z (q := 1) rfl rfl rfl (by omega) (by omega) ?_
      refine e_assign rfl rfl ?_
      refine e_nil ?_
      refine ⟨_, [(1, ptr r1), (2, ptr r2), (3, ptr r3), (4, .int .i64 (((i : Nat) : Int) - 1))], [(0, ⟨r1, arr .u8 32 f, 22⟩), (1, ⟨r2, arr .u64 4 (fun _ => 0), 31⟩), (2, ⟨r3, arr .u64 4 (upd s (i / 8) (wd (vb f 32 % 2 ^ 255) (i / 8) / 2 ^ (8 * (i - 8 * (i / 8))))), 31⟩)], ?_, ⟨rfl, rfl, rfl, congrArg (fun z => some (Value.int .i64 z)) (show ((i + 1 : Nat) : Int) - 1 - 1 = ((i : Nat) : Int) - 1 by omega), trivial⟩, ⟨rfl, rfl, rfl, trivial⟩, i, upd s (i / 8) (wd (vb f 32 % 2 ^ 255) (i / 8) / 2 ^ (8 * (i - 8 * (i / 8)))), rfl, rfl, rfl, by omega, down_next hf0_1⟩
      omega
    · intro hc1
      have hc1 := of_decide_eq_false hc1
      have hby : f i = bt (vb f 32 % 2 ^ 255) i := byte_low hf (by omega)
      refine e_skip ?_
      refine e_plain ?_
      refine e_move rfl rfl ?_
      refine e_as (congrArg (Value.int .i64) (show ((i + 1 : Nat) : Int) - 1 = ((i : Nat) : Int) by omega)) ?_
      refine e_quo_i (q := 8) rfl rfl rfl (by omega) (by omega) ?_
      refine e_move rfl rfl ?_
      refine e_as (congrArg (Value.int .i64) (show ((i + 1 : Nat) : Int) - 1 = ((i : Nat) : Int) by omega)) ?_
      refine e_quo_i (q := 8) rfl rfl rfl (by omega) (by omega) ?_
      refine e_index0 und31 siz29 rfl rfl (by omega) rfl ?_
      refine e_load1 (i := 2) und29 rfl rfl rfl (arr_get (by omega)) rfl ⟨[], trivial⟩ ?_
      refine e_as (congrArg u (hf0_1 (i / 8) (by omega))) ?_
      refine e_mul_u (q := 256) rfl rfl rfl  ?_
      refine e_move rfl rfl ?_
      refine e_as (congrArg u hby) ?_
      refine e_add_u rfl rfl rfl  ?_
      refine e_as (congrArg u (down_word (vb f 32 % 2 ^ 255) i)) ?_
      refine e_index0 und31 siz29 rfl rfl (by omega) rfl ?_
      refine e_storeN (i := 2) siz29 rfl rfl rfl (by omega) (.inl rfl) ?_
      refine e_nil ?_
      refine e_plain ?_
      refine e_move rfl rfl ?_
      refine e_sub_z (q := 1) rfl rfl rfl (by omega) (by omega) ?_
      refine e_assign rfl rfl ?_
      refine e_nil ?_
      refine ⟨_, [(1, ptr r1), (2, ptr r2), (3, ptr r3), (4, .int .i64 (((i : Nat) : Int) - 1))], [(0, ⟨r1, arr .u8 32 f, 22⟩), (1, ⟨r2, arr .u64 4 (fun _ => 0), 31⟩), (2, ⟨r3, arr .u64 4 (upd s (i / 8) (wd (vb f 32 % 2 ^ 255) (i / 8) / 2 ^ (8 * (i - 8 * (i / 8))))), 31⟩)], ?_, ⟨rfl, rfl, rfl, congrArg (fun z => some (Value.int .i64 z)) (show ((i + 1 : Nat) : Int) - 1 - 1 = ((i : Nat) : Int) - 1 by omega), trivial⟩, ⟨rfl, rfl, rfl, trivial⟩, i, upd s (i / 8) (wd (vb f 32 % 2 ^ 255) (i / 8) / 2 ^ (8 * (i - 8 * (i / 8)))), rfl, rfl, rfl, by omega, down_next hf0_1⟩
      omega
  · intro hc0
    have hc0 := of_decide_eq_false hc0
    have hn0 : n = 0 := by omega
    subst hn0
    refine e_exit ?_
    refine e_seq ?_
    refine e_plain ?_
    refine e_loadA (i := 2) und31 rfl siz31 rfl rfl (arr_size _ _ _) rfl ⟨[], trivial⟩ ?_
    refine e_as (fe_of (down_end hf0_1)).symm ?_
    refine e_call rfl ent31 (reduced_fn (vb f 32 % 2 ^ 255) (Nat.lt_trans (Nat.mod_lt _ (Nat.pow_pos (by decide))) (by decide))) rfl rfl ?_
    refine e_storeA (i := 1) siz31 rfl rfl (arr_size _ _ _) arr_one rfl (arr_sz _ _ _ _ _) (.inl rfl) ?_
    refine e_nil ?_
    refine e_ret ?_
    exact ⟨_, rfl, .cell (i := 1) rfl rfl und31 rfl siz31 (arr_size _ _ _)⟩

set_option maxHeartbeats 400000 in
theorem bytesOf_ok (a : Nat) (ha : a < PP) : Fn Tryd.prog [⟨0, arr .u64 16 (d16 PP), 41⟩] 18 #[fe a] (.tuple #[by32 a, ii 0]) := by
  have hPP := PP_eq
  refine fn2 (n := 31) Tryd.func18 rfl rfl (by simp) (argE [fe a] 0) (argE_ok _) ?_
  refine e_seq ?_
  refine e_plain ?_
  refine e_box 0 rfl rfl fun r1 => ?_
  refine e_alloc 1 zer22 rfl fun r2 => ?_
  refine e_assign rfl rfl ?_
  refine e_nil ?_
  refine e_seq ?_
  refine e_plain ?_
  refine e_alloc 2 zer22 rfl fun r3 => ?_
  refine e_nil ?_
  refine e_seq ?_
  refine e_seq ?_
  refine e_plain ?_
  refine e_loadA (i := 0) und31 rfl siz31 rfl rfl (arr_size _ _ _) rfl ⟨[], trivial⟩ ?_
  refine e_call rfl ent32 (in_fn _ (by omega)) rfl rfl ?_
  refine e_not rfl rfl ?_
  refine e_as (congrArg Value.bool (show (!decide (a < PP)) = false by simp [ha])) ?_
  refine e_nil ?_
  refine e_cond rfl ?_ ?_
  · intro hc0
    cases hc0
  · intro hc0
    refine e_skip ?_
    refine e_seq ?_
    refine e_seq ?_
    refine e_plain ?_
    refine e_loadA (i := 0) und31 rfl siz31 rfl rfl (arr_size _ _ _) rfl ⟨[], trivial⟩ ?_
    refine e_call rfl ent16 (of_fn _) rfl rfl ?_
    refine e_move rfl rfl ?_
    refine e_nil ?_
    refine e_block ?_
    refine e_loop (fun kk E m => ∃ (k : Nat) (s : Nat → Nat), kk = 16 - k ∧ E = [(1, ptr r1), (2, ptr r2), (4, ptr r3), (12, .agg (arr .u64 16 (d16 a))), (13, ii k)] ∧ m = [(0, ⟨r1, arr .u64 4 (wd a), 31⟩), (1, ⟨r2, arr .u8 32 (fun _ => 0), 22⟩), (2, ⟨r3, arr .u8 32 s, 22⟩)] ∧ (k ≤ 16) ∧ (∀ j, j < 2 * k → s j = bt a j)) [(1, ptr r1), (2, ptr r2), (4, ptr r3), (12, .agg (arr .u64 16 (d16 a))), (13, ii 0)] [(0, ⟨r1, arr .u64 4 (wd a), 31⟩), (1, ⟨r2, arr .u8 32 (fun _ => 0), 22⟩), (2, ⟨r3, arr .u8 32 (fun _ => 0), 22⟩)] (16 - 0) ⟨rfl, rfl, rfl, rfl, rfl, trivial⟩ ⟨rfl, rfl, rfl, trivial⟩ ⟨0, fun _ => 0, rfl, rfl, rfl, by omega, fun j hj => absurd hj (Nat.not_lt_zero j)⟩ ?_
    rintro kk E m ⟨k, s, rfl, rfl, rfl, hf0_0, hf0_1⟩
    have hdk := d16_lt a k
    refine e_seq ?_
    refine e_plain ?_
    refine e_lt rfl rfl rfl ?_
    refine e_nil ?_
    refine e_seq ?_
    refine e_cond rfl ?_ ?_
    · intro hc1
      have hc1 := of_decide_eq_true hc1
      refine e_skip ?_
      refine e_seq ?_
      refine e_block ?_
      refine e_seq ?_
      refine e_plain ?_
      refine e_move rfl rfl ?_
      refine e_idx und41 und29 siz29 rfl rfl (by omega) rfl ?_
      refine e_assign rfl rfl ?_
      refine e_assign rfl rfl ?_
      refine e_nil ?_
      refine e_plain ?_
      refine e_move rfl rfl ?_
      refine e_mul_i (p := 2) rfl rfl rfl (by omega) ?_
      refine e_move rfl rfl ?_
      refine e_mul_i (p := 2) rfl rfl rfl (by omega) ?_
      refine e_add_i (q := 1) rfl rfl rfl (by omega) ?_
      refine e_move rfl rfl ?_
      refine e_conv_u8 und29 und5 rfl rfl ?_
      refine e_move rfl rfl ?_
      refine e_quo_u (q := 256) rfl rfl rfl (by omega) (by omega) ?_
      refine e_conv_u8 und29 und5 rfl rfl ?_
      refine e_index0 und22 siz5 rfl rfl (by omega) rfl ?_
      refine e_storeN (i := 2) siz5 rfl rfl rfl (by omega) (.inl rfl) ?_
      refine e_index0 und22 siz5 rfl rfl (by omega) rfl ?_
      refine e_storeN (i := 2) siz5 rfl rfl rfl (by omega) (.inl rfl) ?_
      refine e_nil ?_
      refine e_plain ?_
      refine e_add_i (q := 1) rfl rfl rfl (by omega) ?_
      refine e_move rfl rfl ?_
      refine e_nil ?_
      refine ⟨_, [(1, ptr r1), (2, ptr r2), (4, ptr r3), (12, .agg (arr .u64 16 (d16 a))), (13, ii (k + 1))], [(0, ⟨r1, arr .u64 4 (wd a), 31⟩), (1, ⟨r2, arr .u8 32 (fun _ => 0), 22⟩), (2, ⟨r3, arr .u8 32 (upd (upd s (2 * k) _) (2 * k + 1) _), 22⟩)], ?_, ⟨rfl, rfl, rfl, rfl, rfl, trivial⟩, ⟨rfl, rfl, rfl, trivial⟩, k + 1, upd (upd s (2 * k) _) (2 * k + 1) _, rfl, rfl, rfl, by omega, upd_lt (g := bt a) (upd_lt (g := bt a) hf0_1 (even_byte a k)) (odd_byte a k)⟩
      omega
    · intro hc1
      have hc1 := of_decide_eq_false hc1
      have hk : k = 16 := by omega
      subst hk
      refine e_exit ?_
      refine e_seq ?_
      refine e_plain ?_
      refine e_loadA (i := 2) und22 rfl siz22 rfl rfl (arr_size _ _ _) rfl ⟨[], trivial⟩ ?_
      refine e_storeA (i := 1) siz22 rfl rfl (arr_size _ _ _) arr_one rfl (arr_sz _ _ _ _ _) (.inl rfl) ?_
      refine e_assign rfl rfl ?_
      refine e_nil ?_
      refine e_ret ?_
      rw [← by_congr hf0_1]
      exact ⟨_, _, rfl, .cell (i := 1) rfl rfl und22 rfl siz22 (arr_size _ _ _), .tmp rfl⟩

end Go.Proofs.YthhcgeoldjmpaaaDoor
