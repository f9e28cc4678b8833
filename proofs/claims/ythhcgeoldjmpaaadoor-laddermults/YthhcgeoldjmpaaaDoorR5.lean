/-
  Walks, written by a program of ours off the loaded functions.
-/
import Derived.Test.YthhcgeoldjmpaaaDoorR3
namespace Go.Proofs.YthhcgeoldjmpaaaDoor
open Go Go.RowKit


theorem ent20 : enters Tryd.prog 20 = true := by kernel_rfl

variable {G : Mem}

set_option maxHeartbeats 1000000 in
theorem inv16_fn (x : Nat) (hx : x < PP) : Fn Tryd.prog [⟨0, arr .u64 16 (d16 PP), 41⟩] 21 #[dg x] (dg (x ^ EE % PP)) := by
  have hPP := PP_eq
  refine fn1 (n := 32) Tryd.func21 rfl rfl (by simp) (argE [dg x] 0) (argE_ok _) ?_
  refine e_seq ?_
  refine e_plain ?_
  refine e_box 0 rfl rfl fun r1 => ?_
  refine e_alloc 1 zer41 rfl fun r2 => ?_
  refine e_nil ?_
  refine e_seq ?_
  refine e_plain ?_
  refine e_build (arr .u64 16 (upd (fun _ => 0) 0 1)) zer41 und41 siz29 rfl rfl rfl ?_
  refine e_as (dg_one 1 (by decide)) ?_
  refine e_alloc 2 zer41 rfl fun r3 => ?_
  refine e_storeA (i := 2) siz41 rfl rfl (arr_size _ _ _) arr_one rfl (arr_sz _ _ _ _ _) (.inl rfl) ?_
  refine e_nil ?_
  refine e_seq ?_
  refine e_plain ?_
  refine e_loadAg (i := 0) und41 rfl siz41 rfl rfl (arr_size _ _ _) rfl ?_
  refine e_alloc 3 zer41 rfl fun r4 => ?_
  refine e_storeA (i := 3) siz41 rfl rfl (arr_size _ _ _) arr_one rfl (arr_sz _ _ _ _ _) (.inl rfl) ?_
  refine e_nil ?_
  refine e_seq ?_
  refine e_plain ?_
  refine e_index0 (j := 0) und41 siz29 rfl rfl (by omega) rfl ?_
  refine e_load1 (i := 3) und29 rfl rfl rfl (arr_get (by omega)) rfl ⟨[], trivial⟩ ?_
  refine e_sub_u (q := 2) rfl rfl rfl (by omega) ?_
  refine e_as (congrArg u EE_two) ?_
  refine e_index0 (j := 0) und41 siz29 rfl rfl (by omega) rfl ?_
  refine e_storeN (i := 3) siz29 rfl rfl rfl (by omega) (.inl rfl) ?_
  refine e_nil ?_
  refine e_seq ?_
  refine e_seq ?_
  refine e_plain ?_
  refine e_move rfl rfl ?_
  refine e_nil ?_
  refine e_block ?_
  refine e_loop (fun kk E m => ∃ (k : Nat) (b : Nat) (o : Nat), kk = 255 - k ∧ E = [(1, ptr r1), (2, ptr r2), (3, ptr r3), (4, ptr r4), (12, ii k)] ∧ m = [(0, ⟨r1, arr .u64 16 (d16 b), 41⟩), (1, ⟨r2, arr .u64 16 (fun _ => 0), 41⟩), (2, ⟨r3, arr .u64 16 (d16 o), 41⟩), (3, ⟨r4, arr .u64 16 (upd (d16 PP) 0 (d16 PP 0 - 2)), 41⟩)] ∧ (k ≤ 255) ∧ (b = x ^ (2 ^ k) % PP) ∧ (o = x ^ (EE % 2 ^ k) % PP)) [(1, ptr r1), (2, ptr r2), (3, ptr r3), (4, ptr r4), (12, ii 0)] [(0, ⟨r1, arr .u64 16 (d16 x), 41⟩), (1, ⟨r2, arr .u64 16 (fun _ => 0), 41⟩), (2, ⟨r3, arr .u64 16 (d16 1), 41⟩), (3, ⟨r4, arr .u64 16 (upd (d16 PP) 0 (d16 PP 0 - 2)), 41⟩)] (255 - 0) ⟨rfl, rfl, rfl, rfl, rfl, trivial⟩ ⟨rfl, rfl, rfl, rfl, trivial⟩ ⟨0, x, 1, rfl, rfl, rfl, by omega, by rw [Nat.pow_zero, Nat.pow_one, Nat.mod_eq_of_lt hx], pow_none x⟩ ?_
  rintro kk E m ⟨k, b, o, rfl, rfl, rfl, hf0_0, hf0_1, hf0_2⟩
  have hbl : b < 2 ^ 256 := by rw [hf0_1]; exact Nat.lt_trans (Nat.mod_lt _ (by decide)) (by decide)
  have hol : o < 2 ^ 256 := by rw [hf0_2]; exact Nat.lt_trans (Nat.mod_lt _ (by decide)) (by decide)
  refine e_seq ?_
  refine e_plain ?_
  refine e_lt rfl rfl rfl ?_
  refine e_nil ?_
  refine e_seq ?_
  refine e_cond rfl ?_ ?_
  · intro hc0
    have hc0 := of_decide_eq_true hc0
    refine e_skip ?_
    refine e_seq ?_
    refine e_block ?_
    refine e_seq ?_
    refine e_plain ?_
    refine e_move rfl rfl ?_
    refine e_assign rfl rfl ?_
    refine e_nil ?_
    refine e_seq ?_
    refine e_seq ?_
    refine e_plain ?_
    refine e_move rfl rfl ?_
    refine e_quo_i (q := 16) rfl rfl rfl (by omega) (by omega) ?_
    refine e_index0 und41 siz29 rfl rfl (by omega) rfl ?_
    refine e_load1 (i := 3) und29 rfl rfl rfl (arr_get (by omega)) rfl ⟨[], trivial⟩ ?_
    refine e_as (congrArg u (EE_digits (k / 16) (by omega))) ?_
    refine e_move rfl rfl ?_
    refine e_rem_i (q := 16) rfl rfl rfl (by omega) ?_
    refine e_shr_u rfl rfl rfl (by omega) ?_
    refine e_rem_u (q := 2) rfl rfl rfl (by omega) ?_
    refine e_as (congrArg u (digit_bit EE k)) ?_
    refine e_eq rfl rfl rfl ?_
    refine e_nil ?_
    refine e_cond rfl ?_ ?_
    · intro hc1
      have hc1 : EE / 2 ^ k % 2 = 1 := by have := of_decide_eq_true hc1; omega
      refine e_plain ?_
      refine e_loadA (i := 2) und41 rfl siz41 rfl rfl (arr_size _ _ _) rfl ⟨[], trivial⟩ ?_
      refine e_loadA (i := 0) und41 rfl siz41 rfl rfl (arr_size _ _ _) rfl ⟨[], trivial⟩ ?_
      refine e_call rfl ent20 (prod16_fn o b hol hbl) rfl rfl ?_
      refine e_storeA (i := 2) siz41 rfl rfl (arr_size _ _ _) arr_one rfl (arr_sz _ _ _ _ _) (.inl rfl) ?_
      refine e_nil ?_
      refine e_plain ?_
      refine e_loadA (i := 0) und41 rfl siz41 rfl rfl (arr_size _ _ _) rfl ⟨[], trivial⟩ ?_
      refine e_loadA (i := 0) und41 rfl siz41 rfl rfl (arr_size _ _ _) rfl ⟨[], trivial⟩ ?_
      refine e_call rfl ent20 (prod16_fn b b hbl hbl) rfl rfl ?_
      refine e_storeA (i := 0) siz41 rfl rfl (arr_size _ _ _) arr_one rfl (arr_sz _ _ _ _ _) (.inl rfl) ?_
      refine e_nil ?_
      refine e_plain ?_
      refine e_add_i (q := 1) rfl rfl rfl (by omega) ?_
      refine e_move rfl rfl ?_
      refine e_nil ?_
      refine ⟨_, [(1, ptr r1), (2, ptr r2), (3, ptr r3), (4, ptr r4), (12, ii (k + 1))], [(0, ⟨r1, arr .u64 16 (d16 (b * b % PP)), 41⟩), (1, ⟨r2, arr .u64 16 (fun _ => 0), 41⟩), (2, ⟨r3, arr .u64 16 (d16 _), 41⟩), (3, ⟨r4, arr .u64 16 (upd (d16 PP) 0 (d16 PP 0 - 2)), 41⟩)], ?_, ⟨rfl, rfl, rfl, rfl, rfl, trivial⟩, ⟨rfl, rfl, rfl, rfl, trivial⟩, k + 1, b * b % PP, _, rfl, rfl, rfl, by omega, sq_up x k b hf0_1, by first | exact pow_take x k o b hf0_2 hf0_1 hc1 | exact pow_skip x k o hf0_2 hc1⟩
      omega
    · intro hc1
      have hc1 : ¬ EE / 2 ^ k % 2 = 1 := by have := of_decide_eq_false hc1; omega
      refine e_skip ?_
      refine e_plain ?_
      refine e_loadA (i := 0) und41 rfl siz41 rfl rfl (arr_size _ _ _) rfl ⟨[], trivial⟩ ?_
      refine e_loadA (i := 0) und41 rfl siz41 rfl rfl (arr_size _ _ _) rfl ⟨[], trivial⟩ ?_
      refine e_call rfl ent20 (prod16_fn b b hbl hbl) rfl rfl ?_
      refine e_storeA (i := 0) siz41 rfl rfl (arr_size _ _ _) arr_one rfl (arr_sz _ _ _ _ _) (.inl rfl) ?_
      refine e_nil ?_
      refine e_plain ?_
      refine e_add_i (q := 1) rfl rfl rfl (by omega) ?_
      refine e_move rfl rfl ?_
      refine e_nil ?_
      refine ⟨_, [(1, ptr r1), (2, ptr r2), (3, ptr r3), (4, ptr r4), (12, ii (k + 1))], [(0, ⟨r1, arr .u64 16 (d16 (b * b % PP)), 41⟩), (1, ⟨r2, arr .u64 16 (fun _ => 0), 41⟩), (2, ⟨r3, arr .u64 16 (d16 _), 41⟩), (3, ⟨r4, arr .u64 16 (upd (d16 PP) 0 (d16 PP 0 - 2)), 41⟩)], ?_, ⟨rfl, rfl, rfl, rfl, rfl, trivial⟩, ⟨rfl, rfl, rfl, rfl, trivial⟩, k + 1, b * b % PP, _, rfl, rfl, rfl, by omega, sq_up x k b hf0_1, by first | exact pow_take x k o b hf0_2 hf0_1 hc1 | exact pow_skip x k o hf0_2 hc1⟩
      omega
  · intro hc0
    have hc0 := of_decide_eq_false hc0
    have hk : k = 255 := by omega
    subst hk
    rw [pow_last] at hf0_2
    refine e_exit ?_
    refine e_seq ?_
    refine e_plain ?_
    refine e_loadA (i := 2) und41 rfl siz41 rfl rfl (arr_size _ _ _) rfl ⟨[], trivial⟩ ?_
    refine e_storeA (i := 1) siz41 rfl rfl (arr_size _ _ _) arr_one rfl (arr_sz _ _ _ _ _) (.inl rfl) ?_
    refine e_nil ?_
    refine e_ret ?_
    rw [← hf0_2]
    exact ⟨_, rfl, .cell (i := 1) rfl rfl und41 rfl siz41 (arr_size _ _ _)⟩

end Go.Proofs.YthhcgeoldjmpaaaDoor
