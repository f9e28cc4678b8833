/-
  Walks, written by a program of ours off the loaded functions.
-/
import Derived.Test.YtkoigikldikmmaaW3
namespace Go.Proofs.Ytkoigikldikmmaa
open Go Go.RowKit


theorem ent8 : enters Try.prog 8 = true := by kernel_rfl
theorem ent12 : enters Try.prog 12 = true := by kernel_rfl
theorem ent14 : enters Try.prog 14 = true := by kernel_rfl
theorem eqg25 : Try.prog.eqGuardType Try.prog.depth 25 = false := by kernel_rfl

variable {G : Mem}

set_option maxHeartbeats 400000 in
theorem add_ok (a b : Nat) (ha : a < PP) (hb : b < PP) : Fn Try.prog G 8 #[fe a, fe b] (.tuple #[fe ((a + b) % PP), ii 0]) := by
  have hPP := PP_eq
  refine fn2 (n := 25) Try.func8 rfl rfl (by simp) (argE [fe a, fe b] 0) (argE_ok _) ?_
  refine e_seq ?_
  refine e_plain ?_
  refine e_box 0 rfl rfl fun r1 => ?_
  refine e_box 1 rfl rfl fun r2 => ?_
  refine e_alloc 2 zer25 rfl fun r3 => ?_
  refine e_assign rfl rfl ?_
  refine e_nil ?_
  refine e_seq ?_
  refine e_seq ?_
  refine e_plain ?_
  refine e_loadA (i := 0) und25 rfl siz25 rfl rfl (arr_size _ _ _) rfl ?_
  refine e_call rfl ent12 (below_fn _ (by omega)) rfl ?_
  refine e_not rfl rfl ?_
  refine e_as (congrArg Value.bool (show (!decide (a < PP)) = false by simp [ha])) ?_
  refine e_move rfl rfl ?_
  refine e_yes rfl rfl rfl ?_
  refine e_loadA (i := 1) und25 rfl siz25 rfl rfl (arr_size _ _ _) rfl ?_
  refine e_yes rfl rfl rfl ?_
  refine e_call rfl ent12 (below_fn _ (by omega)) rfl ?_
  refine e_yes rfl rfl rfl ?_
  refine e_not rfl rfl ?_
  refine e_as (congrArg Value.bool (show (!decide (b < PP)) = false by simp [hb])) ?_
  refine e_pickF rfl rfl rfl rfl ?_
  refine e_nil ?_
  refine e_cond rfl ?_ ?_
  · intro hc0
    cases hc0
  · intro hc0
    refine e_skip ?_
    refine e_seq ?_
    refine e_plain ?_
    refine e_loadA (i := 0) und25 rfl siz25 rfl rfl (arr_size _ _ _) rfl ?_
    refine e_loadA (i := 1) und25 rfl siz25 rfl rfl (arr_size _ _ _) rfl ?_
    refine e_call rfl ent13 (plus_fn _ _ (by omega) (by omega)) rfl ?_
    refine e_move rfl rfl ?_
    refine e_extract rfl rfl rfl ?_
    refine e_as (congrArg fe (Nat.mod_eq_of_lt (show a + b < 2 ^ 256 by omega))) ?_
    refine e_extract rfl rfl rfl ?_
    refine e_alloc 3 zer25 rfl fun r4 => ?_
    refine e_storeA (i := 3) siz25 rfl rfl (arr_size _ _ _) arr_one rfl (arr_sz _ _ _ _ _) ?_
    refine e_assign rfl rfl ?_
    refine e_nil ?_
    refine e_seq ?_
    refine e_plain ?_
    refine e_loadA (i := 3) und25 rfl siz25 rfl rfl (arr_size _ _ _) rfl ?_
    refine e_call rfl ent11 (fold_fn _ 0 (by omega) (by omega)) rfl ?_
    refine e_storeA (i := 2) siz25 rfl rfl (arr_size _ _ _) arr_one rfl (arr_sz _ _ _ _ _) ?_
    refine e_assign rfl rfl ?_
    refine e_nil ?_
    refine e_ret ?_
    rw [show (a + b) % PP = (a + b + 0 * 2 ^ 256) % PP by rw [Nat.zero_mul, Nat.add_zero]]
    exact ⟨_, _, rfl, .cell (i := 2) rfl rfl und25 rfl siz25 (arr_size _ _ _), .tmp rfl⟩

set_option maxHeartbeats 400000 in
theorem sub_ok (a b : Nat) (ha : a < PP) (hb : b < PP) : Fn Try.prog G 10 #[fe a, fe b] (.tuple #[fe ((a + PP - b) % PP), ii 0]) := by
  have hPP := PP_eq
  obtain ⟨t, ht⟩ : ∃ t, t = (if a < b then 1 else 0) := ⟨_, rfl⟩
  have hb1 : t ≤ 1 := by rw [ht]; split <;> omega
  have hb2 : PP * t < 2 ^ 256 := by rw [hPP]; omega
  have hm1 := Nat.mod_lt (a + 2 ^ 256 - b) (show 0 < 2 ^ 256 from Nat.pow_pos (by decide))
  refine fn2 (n := 32) Try.func10 rfl rfl (by simp) (argE [fe a, fe b] 0) (argE_ok _) ?_
  refine e_seq ?_
  refine e_plain ?_
  refine e_box 0 rfl rfl fun r1 => ?_
  refine e_box 1 rfl rfl fun r2 => ?_
  refine e_alloc 2 zer25 rfl fun r3 => ?_
  refine e_assign rfl rfl ?_
  refine e_nil ?_
  refine e_seq ?_
  refine e_seq ?_
  refine e_plain ?_
  refine e_loadA (i := 0) und25 rfl siz25 rfl rfl (arr_size _ _ _) rfl ?_
  refine e_call rfl ent12 (below_fn _ (by omega)) rfl ?_
  refine e_not rfl rfl ?_
  refine e_as (congrArg Value.bool (show (!decide (a < PP)) = false by simp [ha])) ?_
  refine e_move rfl rfl ?_
  refine e_yes rfl rfl rfl ?_
  refine e_loadA (i := 1) und25 rfl siz25 rfl rfl (arr_size _ _ _) rfl ?_
  refine e_yes rfl rfl rfl ?_
  refine e_call rfl ent12 (below_fn _ (by omega)) rfl ?_
  refine e_yes rfl rfl rfl ?_
  refine e_not rfl rfl ?_
  refine e_as (congrArg Value.bool (show (!decide (b < PP)) = false by simp [hb])) ?_
  refine e_pickF rfl rfl rfl rfl ?_
  refine e_nil ?_
  refine e_cond rfl ?_ ?_
  · intro hc0
    cases hc0
  · intro hc0
    refine e_skip ?_
    refine e_seq ?_
    refine e_plain ?_
    refine e_loadA (i := 0) und25 rfl siz25 rfl rfl (arr_size _ _ _) rfl ?_
    refine e_loadA (i := 1) und25 rfl siz25 rfl rfl (arr_size _ _ _) rfl ?_
    refine e_call rfl ent15 (minus_fn _ _ (by omega) (by omega)) rfl ?_
    refine e_move rfl rfl ?_
    refine e_extract rfl rfl rfl ?_
    refine e_extract rfl rfl rfl ?_
    refine e_as (congrArg u ht.symm) ?_
    refine e_alloc 3 zer25 rfl fun r4 => ?_
    refine e_storeA (i := 3) siz25 rfl rfl (arr_size _ _ _) arr_one rfl (arr_sz _ _ _ _ _) ?_
    refine e_assign rfl rfl ?_
    refine e_nil ?_
    refine e_seq ?_
    refine e_draw mixed (by kernel_rfl) ?_
    refine e_loadA (i := 3) und25 rfl siz25 rfl rfl (arr_size _ _ _) rfl ?_
    refine e_call rfl ent17 prime_fn rfl ?_
    refine e_move rfl rfl ?_
    refine e_call rfl ent16 (times_fn _ _ (by omega)) rfl ?_
    refine e_call rfl ent13 (plus_fn _ _ (by omega) (by omega)) rfl ?_
    refine e_move rfl rfl ?_
    refine e_extract rfl rfl rfl ?_
    refine e_extract rfl rfl rfl ?_
    refine e_storeA (i := 3) siz25 rfl rfl (arr_size _ _ _) arr_one rfl (arr_sz _ _ _ _ _) ?_
    refine e_nil ?_
    refine e_seq ?_
    refine e_plain ?_
    refine e_loadA (i := 3) und25 rfl siz25 rfl rfl (arr_size _ _ _) rfl ?_
    refine e_storeA (i := 2) siz25 rfl rfl (arr_size _ _ _) arr_one rfl (arr_sz _ _ _ _ _) ?_
    refine e_assign rfl rfl ?_
    refine e_nil ?_
    refine e_ret ?_
    rw [← sub_fin a b ha hb, ← ht]
    exact ⟨_, _, rfl, .cell (i := 2) rfl rfl und25 rfl siz25 (arr_size _ _ _), .tmp rfl⟩

set_option maxHeartbeats 400000 in
theorem mul_ok (a b : Nat) (ha : a < PP) (hb : b < PP) : Fn Try.prog G 9 #[fe a, fe b] (.tuple #[fe (a * b % PP), ii 0]) := by
  have hPP := PP_eq
  refine fn2 (n := 18) Try.func9 rfl rfl (by simp) (argE [fe a, fe b] 0) (argE_ok _) ?_
  refine e_seq ?_
  refine e_plain ?_
  refine e_box 0 rfl rfl fun r1 => ?_
  refine e_box 1 rfl rfl fun r2 => ?_
  refine e_alloc 2 zer25 rfl fun r3 => ?_
  refine e_assign rfl rfl ?_
  refine e_nil ?_
  refine e_seq ?_
  refine e_seq ?_
  refine e_plain ?_
  refine e_loadA (i := 0) und25 rfl siz25 rfl rfl (arr_size _ _ _) rfl ?_
  refine e_call rfl ent12 (below_fn _ (by omega)) rfl ?_
  refine e_not rfl rfl ?_
  refine e_as (congrArg Value.bool (show (!decide (a < PP)) = false by simp [ha])) ?_
  refine e_move rfl rfl ?_
  refine e_yes rfl rfl rfl ?_
  refine e_loadA (i := 1) und25 rfl siz25 rfl rfl (arr_size _ _ _) rfl ?_
  refine e_yes rfl rfl rfl ?_
  refine e_call rfl ent12 (below_fn _ (by omega)) rfl ?_
  refine e_yes rfl rfl rfl ?_
  refine e_not rfl rfl ?_
  refine e_as (congrArg Value.bool (show (!decide (b < PP)) = false by simp [hb])) ?_
  refine e_pickF rfl rfl rfl rfl ?_
  refine e_nil ?_
  refine e_cond rfl ?_ ?_
  · intro hc0
    cases hc0
  · intro hc0
    refine e_skip ?_
    refine e_seq ?_
    refine e_plain ?_
    refine e_loadA (i := 0) und25 rfl siz25 rfl rfl (arr_size _ _ _) rfl ?_
    refine e_loadA (i := 1) und25 rfl siz25 rfl rfl (arr_size _ _ _) rfl ?_
    refine e_call rfl ent14 (product_fn _ _ (by omega) (by omega)) rfl ?_
    refine e_storeA (i := 2) siz25 rfl rfl (arr_size _ _ _) arr_one rfl (arr_sz _ _ _ _ _) ?_
    refine e_assign rfl rfl ?_
    refine e_nil ?_
    refine e_ret ?_
    exact ⟨_, _, rfl, .cell (i := 2) rfl rfl und25 rfl siz25 (arr_size _ _ _), .tmp rfl⟩

set_option maxHeartbeats 400000 in
theorem tells_fn : Fn Try.prog G 7 #[] (.bool true) := by
  have hPP := PP_eq
  refine fn1 (n := 16) Try.func7 rfl rfl (by simp) (argE [] 0) (argE_ok _) ?_
  refine e_seq ?_
  refine e_plain ?_
  refine e_assign rfl rfl ?_
  refine e_nil ?_
  refine e_seq ?_
  refine e_plain ?_
  refine e_build (arr .u64 4 (upd (fun _ => 0) 0 2)) zer25 und25 siz23 rfl rfl rfl ?_
  refine e_as (fe_one 2 (by decide)) ?_
  refine e_build (arr .u64 4 (upd (fun _ => 0) 0 2)) zer25 und25 siz23 rfl rfl rfl ?_
  refine e_as (fe_one 2 (by decide)) ?_
  refine e_call rfl ent8 (add_ok 2 2 (by decide) (by decide)) rfl ?_
  refine e_move rfl rfl ?_
  refine e_extract rfl rfl rfl ?_
  refine e_as (congrArg fe (show (2 + 2) % PP = 4 by decide)) ?_
  refine e_extract rfl rfl rfl ?_
  refine e_alloc 0 zer25 rfl fun r1 => ?_
  refine e_storeA (i := 0) siz25 rfl rfl (arr_size _ _ _) arr_one rfl (arr_sz _ _ _ _ _) ?_
  refine e_assign rfl rfl ?_
  refine e_nil ?_
  refine e_seq ?_
  refine e_plain ?_
  refine e_move rfl rfl ?_
  refine e_eq rfl rfl rfl ?_
  refine e_as (congrArg Value.bool (decide_eq_true rfl)) ?_
  refine e_move rfl rfl ?_
  refine e_yes rfl rfl rfl ?_
  refine e_loadA (i := 0) und25 rfl siz25 rfl rfl (arr_size _ _ _) rfl ?_
  refine e_yes rfl rfl rfl ?_
  refine e_build (arr .u64 4 (upd (fun _ => 0) 0 4)) zer25 und25 siz23 rfl rfl rfl ?_
  refine e_as (fe_one 4 (by decide)) ?_
  refine e_yes rfl rfl rfl ?_
  refine e_eqA und25 und23 siz23 eqg25 rfl rfl rfl ?_
  refine e_as (congrArg Value.bool (allEq_iff.2 (fun _ _ => rfl))) ?_
  refine e_pickT rfl rfl rfl rfl ?_
  refine e_assign rfl rfl ?_
  refine e_nil ?_
  refine e_ret ?_
  exact ⟨_, rfl, .tmp rfl⟩

end Go.Proofs.Ytkoigikldikmmaa
