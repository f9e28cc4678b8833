/-
  Walks, written by a program of ours off the loaded functions.
-/
import Derived.Test.YtkoigikldikmmabW3
namespace Go.Proofs.Ytkoigikldikmmab
open Go Go.RowKit


theorem ent12 : enters Try.prog 12 = true := by kernel_rfl
theorem ent14 : enters Try.prog 14 = true := by kernel_rfl

variable {G : Mem}

set_option maxHeartbeats 400000 in
theorem add_ok (a b : Nat) (ha : a < PP) (hb : b < PP) : Fn Try.prog G 14 #[fe a, fe b] (.tuple #[fe ((a + b) % PP), ii 0]) := by
  have hPP := PP_eq
  refine fn2 (n := 25) Try.func14 rfl rfl (by simp) (argE [fe a, fe b] 0) (argE_ok _) ?_
  refine e_seq ?_
  refine e_plain ?_
  refine e_box rfl rfl fun r1 => ?_
  refine e_box rfl rfl fun r2 => ?_
  refine e_alloc zer25 rfl fun r3 => ?_
  refine e_assign rfl rfl ?_
  refine e_nil ?_
  refine e_seq ?_
  refine e_seq ?_
  refine e_plain ?_
  refine e_loadA (i := 0) und25 rfl siz25 rfl rfl (arr_size _ _ _) rfl ?_
  refine e_call rfl ent11 (below_fn _ (by omega)) rfl ?_
  refine e_not rfl rfl ?_
  refine e_as (congrArg Value.bool (show (!decide (a < PP)) = false by simp [ha])) ?_
  refine e_move rfl rfl ?_
  refine e_yes rfl rfl rfl ?_
  refine e_loadA (i := 1) und25 rfl siz25 rfl rfl (arr_size _ _ _) rfl ?_
  refine e_yes rfl rfl rfl ?_
  refine e_call rfl ent11 (below_fn _ (by omega)) rfl ?_
  refine e_yes rfl rfl rfl ?_
  refine e_not rfl rfl ?_
  refine e_as (congrArg Value.bool (show (!decide (b < PP)) = false by simp [hb])) ?_
  refine e_pickF rfl rfl rfl rfl ?_
  refine e_nil ?_
  refine e_cond rfl ?_ ?_
  · intro hc0
    cases hc0
  · intro hc0
    refine e_skip ?_
    refine e_seq ?_
    refine e_plain ?_
    refine e_loadA (i := 0) und25 rfl siz25 rfl rfl (arr_size _ _ _) rfl ?_
    refine e_loadA (i := 1) und25 rfl siz25 rfl rfl (arr_size _ _ _) rfl ?_
    refine e_call rfl ent15 (plus_fn _ _ (by omega) (by omega)) rfl ?_
    refine e_move rfl rfl ?_
    refine e_extract rfl rfl rfl ?_
    refine e_as (congrArg fe (Nat.mod_eq_of_lt (show a + b < 2 ^ 256 by omega))) ?_
    refine e_extract rfl rfl rfl ?_
    refine e_alloc zer25 rfl fun r4 => ?_
    refine e_storeA (i := 3) siz25 rfl rfl (arr_size _ _ _) arr_one rfl (arr_sz _ _ _ _ _) ?_
    refine e_assign rfl rfl ?_
    refine e_nil ?_
    refine e_seq ?_
    refine e_plain ?_
    refine e_loadA (i := 3) und25 rfl siz25 rfl rfl (arr_size _ _ _) rfl ?_
    refine e_call rfl ent10 (fold_fn _ 0 (by omega) (by omega)) rfl ?_
    refine e_storeA (i := 2) siz25 rfl rfl (arr_size _ _ _) arr_one rfl (arr_sz _ _ _ _ _) ?_
    refine e_assign rfl rfl ?_
    refine e_nil ?_
    refine e_ret ?_
    rw [show (a + b) % PP = (a + b + 0 * 2 ^ 256) % PP by rw [Nat.zero_mul, Nat.add_zero]]
    exact ⟨_, _, rfl, .cell (i := 2) rfl rfl und25 rfl siz25 (arr_size _ _ _), .tmp rfl⟩

set_option maxHeartbeats 400000 in
theorem mul_ok (a b : Nat) (ha : a < PP) (hb : b < PP) : Fn Try.prog G 7 #[fe a, fe b] (.tuple #[fe (a * b % PP), ii 0]) := by
  have hPP := PP_eq
  refine fn2 (n := 18) Try.func7 rfl rfl (by simp) (argE [fe a, fe b] 0) (argE_ok _) ?_
  refine e_seq ?_
  refine e_plain ?_
  refine e_box rfl rfl fun r1 => ?_
  refine e_box rfl rfl fun r2 => ?_
  refine e_alloc zer25 rfl fun r3 => ?_
  refine e_assign rfl rfl ?_
  refine e_nil ?_
  refine e_seq ?_
  refine e_seq ?_
  refine e_plain ?_
  refine e_loadA (i := 0) und25 rfl siz25 rfl rfl (arr_size _ _ _) rfl ?_
  refine e_call rfl ent11 (below_fn _ (by omega)) rfl ?_
  refine e_not rfl rfl ?_
  refine e_as (congrArg Value.bool (show (!decide (a < PP)) = false by simp [ha])) ?_
  refine e_move rfl rfl ?_
  refine e_yes rfl rfl rfl ?_
  refine e_loadA (i := 1) und25 rfl siz25 rfl rfl (arr_size _ _ _) rfl ?_
  refine e_yes rfl rfl rfl ?_
  refine e_call rfl ent11 (below_fn _ (by omega)) rfl ?_
  refine e_yes rfl rfl rfl ?_
  refine e_not rfl rfl ?_
  refine e_as (congrArg Value.bool (show (!decide (b < PP)) = false by simp [hb])) ?_
  refine e_pickF rfl rfl rfl rfl ?_
  refine e_nil ?_
  refine e_cond rfl ?_ ?_
  · intro hc0
    cases hc0
  · intro hc0
    refine e_skip ?_
    refine e_seq ?_
    refine e_plain ?_
    refine e_loadA (i := 0) und25 rfl siz25 rfl rfl (arr_size _ _ _) rfl ?_
    refine e_loadA (i := 1) und25 rfl siz25 rfl rfl (arr_size _ _ _) rfl ?_
    refine e_call rfl ent13 (product_fn _ _ (by omega) (by omega)) rfl ?_
    refine e_storeA (i := 2) siz25 rfl rfl (arr_size _ _ _) arr_one rfl (arr_sz _ _ _ _ _) ?_
    refine e_assign rfl rfl ?_
    refine e_nil ?_
    refine e_ret ?_
    exact ⟨_, _, rfl, .cell (i := 2) rfl rfl und25 rfl siz25 (arr_size _ _ _), .tmp rfl⟩

set_option maxHeartbeats 400000 in
theorem inv_ok (a : Nat) (ha : a < PP) : Fn Try.prog G 6 #[fe a] (.tuple #[fe (a ^ EE % PP), ii 0]) := by
  have hPP := PP_eq
  refine fn2 (n := 10) Try.func6 rfl rfl (by simp) (argE [fe a] 0) (argE_ok _) ?_
  refine e_seq ?_
  refine e_plain ?_
  refine e_box rfl rfl fun r1 => ?_
  refine e_alloc zer25 rfl fun r2 => ?_
  refine e_assign rfl rfl ?_
  refine e_nil ?_
  refine e_seq ?_
  refine e_seq ?_
  refine e_plain ?_
  refine e_loadA (i := 0) und25 rfl siz25 rfl rfl (arr_size _ _ _) rfl ?_
  refine e_call rfl ent11 (below_fn _ (by omega)) rfl ?_
  refine e_not rfl rfl ?_
  refine e_as (congrArg Value.bool (show (!decide (a < PP)) = false by simp [ha])) ?_
  refine e_nil ?_
  refine e_cond rfl ?_ ?_
  · intro hc0
    cases hc0
  · intro hc0
    refine e_skip ?_
    refine e_seq ?_
    refine e_plain ?_
    refine e_loadA (i := 0) und25 rfl siz25 rfl rfl (arr_size _ _ _) rfl ?_
    refine e_call rfl ent12 (inverse_fn _ (by omega)) rfl ?_
    refine e_storeA (i := 1) siz25 rfl rfl (arr_size _ _ _) arr_one rfl (arr_sz _ _ _ _ _) ?_
    refine e_assign rfl rfl ?_
    refine e_nil ?_
    refine e_ret ?_
    exact ⟨_, _, rfl, .cell (i := 1) rfl rfl und25 rfl siz25 (arr_size _ _ _), .tmp rfl⟩

set_option maxHeartbeats 400000 in
theorem tells_fn : Fn Try.prog G 8 #[] (.bool true) := by
  have hPP := PP_eq
  refine fn1 (n := 16) Try.func8 rfl rfl (by simp) (argE [] 0) (argE_ok _) ?_
  refine e_seq ?_
  refine e_plain ?_
  refine e_assign rfl rfl ?_
  refine e_nil ?_
  refine e_seq ?_
  refine e_plain ?_
  refine e_build (arr .u64 4 (upd (fun _ => 0) 0 2)) zer25 und25 siz23 rfl rfl rfl ?_
  refine e_as (fe_one 2 (by decide)) ?_
  refine e_build (arr .u64 4 (upd (fun _ => 0) 0 2)) zer25 und25 siz23 rfl rfl rfl ?_
  refine e_as (fe_one 2 (by decide)) ?_
  refine e_call rfl ent14 (add_ok 2 2 (by decide) (by decide)) rfl ?_
  refine e_move rfl rfl ?_
  refine e_extract rfl rfl rfl ?_
  refine e_as (congrArg fe (show (2 + 2) % PP = 4 by decide)) ?_
  refine e_extract rfl rfl rfl ?_
  refine e_alloc zer25 rfl fun r1 => ?_
  refine e_storeA (i := 0) siz25 rfl rfl (arr_size _ _ _) arr_one rfl (arr_sz _ _ _ _ _) ?_
  refine e_assign rfl rfl ?_
  refine e_nil ?_
  refine e_seq ?_
  refine e_plain ?_
  refine e_move rfl rfl ?_
  refine e_eq rfl rfl rfl ?_
  refine e_as (congrArg Value.bool (decide_eq_true rfl)) ?_
  refine e_move rfl rfl ?_
  refine e_yes rfl rfl rfl ?_
  refine e_loadA (i := 0) und25 rfl siz25 rfl rfl (arr_size _ _ _) rfl ?_
  refine e_yes rfl rfl rfl ?_
  refine e_build (arr .u64 4 (upd (fun _ => 0) 0 4)) zer25 und25 siz23 rfl rfl rfl ?_
  refine e_as (fe_one 4 (by decide)) ?_
  refine e_yes rfl rfl rfl ?_
  refine e_eqA und25 und23 siz23 eqg25 rfl rfl rfl ?_
  refine e_as (congrArg Value.bool (allEq_iff.2 (fun _ _ => rfl))) ?_
  refine e_pickT rfl rfl rfl rfl ?_
  refine e_assign rfl rfl ?_
  refine e_nil ?_
  refine e_ret ?_
  exact ⟨_, rfl, .tmp rfl⟩

end Go.Proofs.Ytkoigikldikmmab
