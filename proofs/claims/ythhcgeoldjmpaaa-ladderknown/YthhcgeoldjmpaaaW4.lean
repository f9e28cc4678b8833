/-
  Walks, written by a program of ours off the loaded functions.
-/
import Derived.Test.YthhcgeoldjmpaaaW3
namespace Go.Proofs.Ythhcgeoldjmpaaa
open Go Go.RowKit


theorem ent30 : enters Try.prog 30 = true := by kernel_rfl

variable {G : Mem}

set_option maxHeartbeats 400000 in
theorem add_ok (a b : Nat) (ha : a < PP) (hb : b < PP) : Fn Try.prog G 34 #[fe a, fe b] (.tuple #[fe ((a + b) % PP), ii 0]) := by
  have hPP := PP_eq
  refine fn2 (n := 25) Try.func34 rfl rfl (by simp) (argE [fe a, fe b] 0) (argE_ok _) ?_
  refine e_seq ?_
  refine e_plain ?_
  refine e_box 0 rfl rfl fun r1 => ?_
  refine e_box 1 rfl rfl fun r2 => ?_
  refine e_alloc 2 zer36 rfl fun r3 => ?_
  refine e_assign rfl rfl ?_
  refine e_nil ?_
  refine e_seq ?_
  refine e_seq ?_
  refine e_plain ?_
  refine e_loadA (i := 0) und36 rfl siz36 rfl rfl (arr_size _ _ _) rfl ⟨[], trivial⟩ ?_
  refine e_call rfl ent29 (below_fn _ (by omega)) rfl rfl ?_
  refine e_not rfl rfl ?_
  refine e_as (congrArg Value.bool (show (!decide (a < PP)) = false by simp [ha])) ?_
  refine e_move rfl rfl ?_
  refine e_yes rfl rfl rfl ?_
  refine e_loadA (i := 1) und36 rfl siz36 rfl rfl (arr_size _ _ _) rfl ⟨[], trivial⟩ ?_
  refine e_yes rfl rfl rfl ?_
  refine e_call rfl ent29 (below_fn _ (by omega)) rfl rfl ?_
  refine e_yes rfl rfl rfl ?_
  refine e_not rfl rfl ?_
  refine e_as (congrArg Value.bool (show (!decide (b < PP)) = false by simp [hb])) ?_
  refine e_pickF rfl rfl rfl rfl ?_
  refine e_nil ?_
  refine e_cond rfl ?_ ?_
  · intro hc0
    cases hc0
  · intro hc0
    refine e_skip ?_
    refine e_seq ?_
    refine e_plain ?_
    refine e_loadA (i := 0) und36 rfl siz36 rfl rfl (arr_size _ _ _) rfl ⟨[], trivial⟩ ?_
    refine e_loadA (i := 1) und36 rfl siz36 rfl rfl (arr_size _ _ _) rfl ⟨[], trivial⟩ ?_
    refine e_call rfl ent22 (plus_fn _ _ (by omega) (by omega)) rfl rfl ?_
    refine e_move rfl rfl ?_
    refine e_extract rfl rfl rfl ?_
    refine e_as (congrArg fe (Nat.mod_eq_of_lt (show a + b < 2 ^ 256 by omega))) ?_
    refine e_extract rfl rfl rfl ?_
    refine e_alloc 3 zer36 rfl fun r4 => ?_
    refine e_storeA (i := 3) siz36 rfl rfl (arr_size _ _ _) arr_one rfl (arr_sz _ _ _ _ _) (.inl rfl) ?_
    refine e_assign rfl rfl ?_
    refine e_nil ?_
    refine e_seq ?_
    refine e_plain ?_
    refine e_loadA (i := 3) und36 rfl siz36 rfl rfl (arr_size _ _ _) rfl ⟨[], trivial⟩ ?_
    refine e_call rfl ent15 (fold_fn _ 0 (by omega) (by omega)) rfl rfl ?_
    refine e_storeA (i := 2) siz36 rfl rfl (arr_size _ _ _) arr_one rfl (arr_sz _ _ _ _ _) (.inl rfl) ?_
    refine e_assign rfl rfl ?_
    refine e_nil ?_
    refine e_ret ?_
    rw [show (a + b) % PP = (a + b + 0 * 2 ^ 256) % PP by rw [Nat.zero_mul, Nat.add_zero]]
    exact ⟨_, _, rfl, .cell (i := 2) rfl rfl und36 rfl siz36 (arr_size _ _ _), .tmp rfl⟩

set_option maxHeartbeats 400000 in
theorem sub_ok (a b : Nat) (ha : a < PP) (hb : b < PP) : Fn Try.prog G 35 #[fe a, fe b] (.tuple #[fe ((a + PP - b) % PP), ii 0]) := by
  have hPP := PP_eq
  obtain ⟨t, ht⟩ : ∃ t, t = (if a < b then 1 else 0) := ⟨_, rfl⟩
  have hb1 : t ≤ 1 := by rw [ht]; split <;> omega
  have hb2 : PP * t < 2 ^ 256 := by rw [hPP]; omega
  have hm1 := Nat.mod_lt (a + 2 ^ 256 - b) (show 0 < 2 ^ 256 from Nat.pow_pos (by decide))
  refine fn2 (n := 32) Try.func35 rfl rfl (by simp) (argE [fe a, fe b] 0) (argE_ok _) ?_
  refine e_seq ?_
  refine e_plain ?_
  refine e_box 0 rfl rfl fun r1 => ?_
  refine e_box 1 rfl rfl fun r2 => ?_
  refine e_alloc 2 zer36 rfl fun r3 => ?_
  refine e_assign rfl rfl ?_
  refine e_nil ?_
  refine e_seq ?_
  refine e_seq ?_
  refine e_plain ?_
  refine e_loadA (i := 0) und36 rfl siz36 rfl rfl (arr_size _ _ _) rfl ⟨[], trivial⟩ ?_
  refine e_call rfl ent29 (below_fn _ (by omega)) rfl rfl ?_
  refine e_not rfl rfl ?_
  refine e_as (congrArg Value.bool (show (!decide (a < PP)) = false by simp [ha])) ?_
  refine e_move rfl rfl ?_
  refine e_yes rfl rfl rfl ?_
  refine e_loadA (i := 1) und36 rfl siz36 rfl rfl (arr_size _ _ _) rfl ⟨[], trivial⟩ ?_
  refine e_yes rfl rfl rfl ?_
  refine e_call rfl ent29 (below_fn _ (by omega)) rfl rfl ?_
  refine e_yes rfl rfl rfl ?_
  refine e_not rfl rfl ?_
  refine e_as (congrArg Value.bool (show (!decide (b < PP)) = false by simp [hb])) ?_
  refine e_pickF rfl rfl rfl rfl ?_
  refine e_nil ?_
  refine e_cond rfl ?_ ?_
  · intro hc0
    cases hc0
  · intro hc0
    refine e_skip ?_
    refine e_seq ?_
    refine e_plain ?_
    refine e_loadA (i := 0) und36 rfl siz36 rfl rfl (arr_size _ _ _) rfl ⟨[], trivial⟩ ?_
    refine e_loadA (i := 1) und36 rfl siz36 rfl rfl (arr_size _ _ _) rfl ⟨[], trivial⟩ ?_
    refine e_call rfl ent23 (minus_fn _ _ (by omega) (by omega)) rfl rfl ?_
    refine e_move rfl rfl ?_
    refine e_extract rfl rfl rfl ?_
    refine e_extract rfl rfl rfl ?_
    refine e_as (congrArg u ht.symm) ?_
    refine e_alloc 3 zer36 rfl fun r4 => ?_
    refine e_storeA (i := 3) siz36 rfl rfl (arr_size _ _ _) arr_one rfl (arr_sz _ _ _ _ _) (.inl rfl) ?_
    refine e_assign rfl rfl ?_
    refine e_nil ?_
    refine e_seq ?_
    refine e_draw mixed (by kernel_rfl) ?_
    refine e_loadA (i := 3) und36 rfl siz36 rfl rfl (arr_size _ _ _) rfl ⟨[], trivial⟩ ?_
    refine e_call rfl ent24 prime_fn rfl rfl ?_
    refine e_move rfl rfl ?_
    refine e_call rfl ent25 (times_fn _ _ (by omega)) rfl rfl ?_
    refine e_call rfl ent22 (plus_fn _ _ (by omega) (by omega)) rfl rfl ?_
    refine e_move rfl rfl ?_
    refine e_extract rfl rfl rfl ?_
    refine e_extract rfl rfl rfl ?_
    refine e_storeA (i := 3) siz36 rfl rfl (arr_size _ _ _) arr_one rfl (arr_sz _ _ _ _ _) (.inl rfl) ?_
    refine e_nil ?_
    refine e_seq ?_
    refine e_plain ?_
    refine e_loadA (i := 3) und36 rfl siz36 rfl rfl (arr_size _ _ _) rfl ⟨[], trivial⟩ ?_
    refine e_storeA (i := 2) siz36 rfl rfl (arr_size _ _ _) arr_one rfl (arr_sz _ _ _ _ _) (.inl rfl) ?_
    refine e_assign rfl rfl ?_
    refine e_nil ?_
    refine e_ret ?_
    rw [← sub_fin a b ha hb, ← ht]
    exact ⟨_, _, rfl, .cell (i := 2) rfl rfl und36 rfl siz36 (arr_size _ _ _), .tmp rfl⟩

set_option maxHeartbeats 400000 in
theorem mul_ok (a b : Nat) (ha : a < PP) (hb : b < PP) : Fn Try.prog G 31 #[fe a, fe b] (.tuple #[fe (a * b % PP), ii 0]) := by
  have hPP := PP_eq
  refine fn2 (n := 18) Try.func31 rfl rfl (by simp) (argE [fe a, fe b] 0) (argE_ok _) ?_
  refine e_seq ?_
  refine e_plain ?_
  refine e_box 0 rfl rfl fun r1 => ?_
  refine e_box 1 rfl rfl fun r2 => ?_
  refine e_alloc 2 zer36 rfl fun r3 => ?_
  refine e_assign rfl rfl ?_
  refine e_nil ?_
  refine e_seq ?_
  refine e_seq ?_
  refine e_plain ?_
  refine e_loadA (i := 0) und36 rfl siz36 rfl rfl (arr_size _ _ _) rfl ⟨[], trivial⟩ ?_
  refine e_call rfl ent29 (below_fn _ (by omega)) rfl rfl ?_
  refine e_not rfl rfl ?_
  refine e_as (congrArg Value.bool (show (!decide (a < PP)) = false by simp [ha])) ?_
  refine e_move rfl rfl ?_
  refine e_yes rfl rfl rfl ?_
  refine e_loadA (i := 1) und36 rfl siz36 rfl rfl (arr_size _ _ _) rfl ⟨[], trivial⟩ ?_
  refine e_yes rfl rfl rfl ?_
  refine e_call rfl ent29 (below_fn _ (by omega)) rfl rfl ?_
  refine e_yes rfl rfl rfl ?_
  refine e_not rfl rfl ?_
  refine e_as (congrArg Value.bool (show (!decide (b < PP)) = false by simp [hb])) ?_
  refine e_pickF rfl rfl rfl rfl ?_
  refine e_nil ?_
  refine e_cond rfl ?_ ?_
  · intro hc0
    cases hc0
  · intro hc0
    refine e_skip ?_
    refine e_seq ?_
    refine e_plain ?_
    refine e_loadA (i := 0) und36 rfl siz36 rfl rfl (arr_size _ _ _) rfl ⟨[], trivial⟩ ?_
    refine e_loadA (i := 1) und36 rfl siz36 rfl rfl (arr_size _ _ _) rfl ⟨[], trivial⟩ ?_
    refine e_call rfl ent36 (product_fn _ _ (by omega) (by omega)) rfl rfl ?_
    refine e_storeA (i := 2) siz36 rfl rfl (arr_size _ _ _) arr_one rfl (arr_sz _ _ _ _ _) (.inl rfl) ?_
    refine e_assign rfl rfl ?_
    refine e_nil ?_
    refine e_ret ?_
    exact ⟨_, _, rfl, .cell (i := 2) rfl rfl und36 rfl siz36 (arr_size _ _ _), .tmp rfl⟩

set_option maxHeartbeats 400000 in
theorem inv_ok (a : Nat) (ha : a < PP) : Fn Try.prog G 19 #[fe a] (.tuple #[fe (a ^ EE % PP), ii 0]) := by
  have hPP := PP_eq
  refine fn2 (n := 10) Try.func19 rfl rfl (by simp) (argE [fe a] 0) (argE_ok _) ?_
  refine e_seq ?_
  refine e_plain ?_
  refine e_box 0 rfl rfl fun r1 => ?_
  refine e_alloc 1 zer36 rfl fun r2 => ?_
  refine e_assign rfl rfl ?_
  refine e_nil ?_
  refine e_seq ?_
  refine e_seq ?_
  refine e_plain ?_
  refine e_loadA (i := 0) und36 rfl siz36 rfl rfl (arr_size _ _ _) rfl ⟨[], trivial⟩ ?_
  refine e_call rfl ent29 (below_fn _ (by omega)) rfl rfl ?_
  refine e_not rfl rfl ?_
  refine e_as (congrArg Value.bool (show (!decide (a < PP)) = false by simp [ha])) ?_
  refine e_nil ?_
  refine e_cond rfl ?_ ?_
  · intro hc0
    cases hc0
  · intro hc0
    refine e_skip ?_
    refine e_seq ?_
    refine e_plain ?_
    refine e_loadA (i := 0) und36 rfl siz36 rfl rfl (arr_size _ _ _) rfl ⟨[], trivial⟩ ?_
    refine e_call rfl ent30 (inverse_fn _ (by omega)) rfl rfl ?_
    refine e_storeA (i := 1) siz36 rfl rfl (arr_size _ _ _) arr_one rfl (arr_sz _ _ _ _ _) (.inl rfl) ?_
    refine e_assign rfl rfl ?_
    refine e_nil ?_
    refine e_ret ?_
    exact ⟨_, _, rfl, .cell (i := 1) rfl rfl und36 rfl siz36 (arr_size _ _ _), .tmp rfl⟩

end Go.Proofs.Ythhcgeoldjmpaaa
