/-
  Walks, written by a program of ours off the loaded functions.
-/
import Derived.Test.YtkoigikldikmmaaDoorW3
namespace Go.Proofs.YtkoigikldikmmaaDoor
open Go Go.RowKit


theorem ent30 : enters Tryd.prog 30 = true := by kernel_rfl
theorem sis22 : ((Tryd.prog.info? 22).map (·.size)).isSome = true := by kernel_rfl

variable {G : Mem}

set_option maxHeartbeats 400000 in
theorem add_ok (a b : Nat) (ha : a < PP) (hb : b < PP) : Fn Tryd.prog G 7 #[fe a, fe b] (.tuple #[fe ((a + b) % PP), ii 0]) := by
  have hPP := PP_eq
  refine fn2 (n := 25) Tryd.func7 rfl rfl (by simp) (argE [fe a, fe b] 0) (argE_ok _) ?_
  refine e_seq ?_
  refine e_plain ?_
  refine e_box 0 rfl rfl fun r1 => ?_
  refine e_box 1 rfl rfl fun r2 => ?_
  refine e_alloc 2 zer24 rfl fun r3 => ?_
  refine e_assign rfl rfl ?_
  refine e_nil ?_
  refine e_seq ?_
  refine e_seq ?_
  refine e_plain ?_
  refine e_loadA (i := 0) und24 rfl siz24 rfl rfl (arr_size _ _ _) rfl ?_
  refine e_call rfl ent17 (below_fn _ (by omega)) rfl ?_
  refine e_not rfl rfl ?_
  refine e_as (congrArg Value.bool (show (!decide (a < PP)) = false by simp [ha])) ?_
  refine e_move rfl rfl ?_
  refine e_yes rfl rfl rfl ?_
  refine e_loadA (i := 1) und24 rfl siz24 rfl rfl (arr_size _ _ _) rfl ?_
  refine e_yes rfl rfl rfl ?_
  refine e_call rfl ent17 (below_fn _ (by omega)) rfl ?_
  refine e_yes rfl rfl rfl ?_
  refine e_not rfl rfl ?_
  refine e_as (congrArg Value.bool (show (!decide (b < PP)) = false by simp [hb])) ?_
  refine e_pickF rfl rfl rfl rfl ?_
  refine e_nil ?_
  refine e_cond rfl ?_ ?_
  · intro hc0
    cases hc0
  · intro hc0
    refine e_skip ?_
    refine e_seq ?_
    refine e_plain ?_
    refine e_loadA (i := 0) und24 rfl siz24 rfl rfl (arr_size _ _ _) rfl ?_
    refine e_loadA (i := 1) und24 rfl siz24 rfl rfl (arr_size _ _ _) rfl ?_
    refine e_call rfl ent18 (plus_fn _ _ (by omega) (by omega)) rfl ?_
    refine e_move rfl rfl ?_
    refine e_extract rfl rfl rfl ?_
    refine e_as (congrArg fe (Nat.mod_eq_of_lt (show a + b < 2 ^ 256 by omega))) ?_
    refine e_extract rfl rfl rfl ?_
    refine e_alloc 3 zer24 rfl fun r4 => ?_
    refine e_storeA (i := 3) siz24 rfl rfl (arr_size _ _ _) arr_one rfl (arr_sz _ _ _ _ _) ?_
    refine e_assign rfl rfl ?_
    refine e_nil ?_
    refine e_seq ?_
    refine e_plain ?_
    refine e_loadA (i := 3) und24 rfl siz24 rfl rfl (arr_size _ _ _) rfl ?_
    refine e_call rfl ent19 (fold_fn _ 0 (by omega) (by omega)) rfl ?_
    refine e_storeA (i := 2) siz24 rfl rfl (arr_size _ _ _) arr_one rfl (arr_sz _ _ _ _ _) ?_
    refine e_assign rfl rfl ?_
    refine e_nil ?_
    refine e_ret ?_
    rw [show (a + b) % PP = (a + b + 0 * 2 ^ 256) % PP by rw [Nat.zero_mul, Nat.add_zero]]
    exact ⟨_, _, rfl, .cell (i := 2) rfl rfl und24 rfl siz24 (arr_size _ _ _), .tmp rfl⟩

set_option maxHeartbeats 400000 in
theorem add_bada (a b : Nat) (ha : ¬ a < PP) (ha2 : a < 2 ^ 256) : Fn Tryd.prog G 7 #[fe a, fe b] (.tuple #[.agg (arr .u64 4 (fun _ => 0)), ii 6]) := by
  have hPP := PP_eq
  refine fn2 (n := 25) Tryd.func7 rfl rfl (by simp) (argE [fe a, fe b] 0) (argE_ok _) ?_
  refine e_seq ?_
  refine e_plain ?_
  refine e_box 0 rfl rfl fun r1 => ?_
  refine e_box 1 rfl rfl fun r2 => ?_
  refine e_alloc 2 zer24 rfl fun r3 => ?_
  refine e_assign rfl rfl ?_
  refine e_nil ?_
  refine e_seq ?_
  refine e_seq ?_
  refine e_plain ?_
  refine e_loadA (i := 0) und24 rfl siz24 rfl rfl (arr_size _ _ _) rfl ?_
  refine e_call rfl ent17 (below_fn _ (by omega)) rfl ?_
  refine e_not rfl rfl ?_
  refine e_as (congrArg Value.bool (show (!decide (a < PP)) = true by simp [ha])) ?_
  refine e_move rfl rfl ?_
  refine e_no rfl rfl (by decide) rfl ?_
  refine e_no rfl rfl (by decide) rfl ?_
  refine e_no rfl rfl (by decide) rfl ?_
  refine e_pickT rfl rfl rfl rfl ?_
  refine e_nil ?_
  refine e_cond rfl ?_ ?_
  · intro hc0
    refine e_seq ?_
    refine e_plain ?_
    refine e_build0 zer24 und24 sis22 rfl ?_
    refine e_storeA (i := 2) siz24 rfl rfl (arr_size _ _ _) arr_one rfl (arr_sz _ _ _ _ _) ?_
    refine e_assign rfl rfl ?_
    refine e_nil ?_
    refine e_ret ?_
    exact ⟨_, _, rfl, .cell (i := 2) rfl rfl und24 rfl siz24 (arr_size _ _ _), .tmp rfl⟩
  · intro hc0
    cases hc0

set_option maxHeartbeats 400000 in
theorem add_badb (a b : Nat) (ha : a < PP) (hb : ¬ b < PP) (hb2 : b < 2 ^ 256) : Fn Tryd.prog G 7 #[fe a, fe b] (.tuple #[.agg (arr .u64 4 (fun _ => 0)), ii 6]) := by
  have hPP := PP_eq
  refine fn2 (n := 25) Tryd.func7 rfl rfl (by simp) (argE [fe a, fe b] 0) (argE_ok _) ?_
  refine e_seq ?_
  refine e_plain ?_
  refine e_box 0 rfl rfl fun r1 => ?_
  refine e_box 1 rfl rfl fun r2 => ?_
  refine e_alloc 2 zer24 rfl fun r3 => ?_
  refine e_assign rfl rfl ?_
  refine e_nil ?_
  refine e_seq ?_
  refine e_seq ?_
  refine e_plain ?_
  refine e_loadA (i := 0) und24 rfl siz24 rfl rfl (arr_size _ _ _) rfl ?_
  refine e_call rfl ent17 (below_fn _ (by omega)) rfl ?_
  refine e_not rfl rfl ?_
  refine e_as (congrArg Value.bool (show (!decide (a < PP)) = false by simp [ha])) ?_
  refine e_move rfl rfl ?_
  refine e_yes rfl rfl rfl ?_
  refine e_loadA (i := 1) und24 rfl siz24 rfl rfl (arr_size _ _ _) rfl ?_
  refine e_yes rfl rfl rfl ?_
  refine e_call rfl ent17 (below_fn _ (by omega)) rfl ?_
  refine e_yes rfl rfl rfl ?_
  refine e_not rfl rfl ?_
  refine e_as (congrArg Value.bool (show (!decide (b < PP)) = true by simp [hb])) ?_
  refine e_pickF rfl rfl rfl rfl ?_
  refine e_nil ?_
  refine e_cond rfl ?_ ?_
  · intro hc0
    refine e_seq ?_
    refine e_plain ?_
    refine e_build0 zer24 und24 sis22 rfl ?_
    refine e_storeA (i := 2) siz24 rfl rfl (arr_size _ _ _) arr_one rfl (arr_sz _ _ _ _ _) ?_
    refine e_assign rfl rfl ?_
    refine e_nil ?_
    refine e_ret ?_
    exact ⟨_, _, rfl, .cell (i := 2) rfl rfl und24 rfl siz24 (arr_size _ _ _), .tmp rfl⟩
  · intro hc0
    cases hc0

set_option maxHeartbeats 400000 in
theorem sub_ok (a b : Nat) (ha : a < PP) (hb : b < PP) : Fn Tryd.prog G 8 #[fe a, fe b] (.tuple #[fe ((a + PP - b) % PP), ii 0]) := by
  have hPP := PP_eq
  obtain ⟨t, ht⟩ : ∃ t, t = (if a < b then 1 else 0) := ⟨_, rfl⟩
  have hb1 : t ≤ 1 := by rw [ht]; split <;> omega
  have hb2 : PP * t < 2 ^ 256 := by rw [hPP]; omega
  have hm1 := Nat.mod_lt (a + 2 ^ 256 - b) (show 0 < 2 ^ 256 from Nat.pow_pos (by decide))
  refine fn2 (n := 32) Tryd.func8 rfl rfl (by simp) (argE [fe a, fe b] 0) (argE_ok _) ?_
  refine e_seq ?_
  refine e_plain ?_
  refine e_box 0 rfl rfl fun r1 => ?_
  refine e_box 1 rfl rfl fun r2 => ?_
  refine e_alloc 2 zer24 rfl fun r3 => ?_
  refine e_assign rfl rfl ?_
  refine e_nil ?_
  refine e_seq ?_
  refine e_seq ?_
  refine e_plain ?_
  refine e_loadA (i := 0) und24 rfl siz24 rfl rfl (arr_size _ _ _) rfl ?_
  refine e_call rfl ent17 (below_fn _ (by omega)) rfl ?_
  refine e_not rfl rfl ?_
  refine e_as (congrArg Value.bool (show (!decide (a < PP)) = false by simp [ha])) ?_
  refine e_move rfl rfl ?_
  refine e_yes rfl rfl rfl ?_
  refine e_loadA (i := 1) und24 rfl siz24 rfl rfl (arr_size _ _ _) rfl ?_
  refine e_yes rfl rfl rfl ?_
  refine e_call rfl ent17 (below_fn _ (by omega)) rfl ?_
  refine e_yes rfl rfl rfl ?_
  refine e_not rfl rfl ?_
  refine e_as (congrArg Value.bool (show (!decide (b < PP)) = false by simp [hb])) ?_
  refine e_pickF rfl rfl rfl rfl ?_
  refine e_nil ?_
  refine e_cond rfl ?_ ?_
  · intro hc0
    cases hc0
  · intro hc0
    refine e_skip ?_
    refine e_seq ?_
    refine e_plain ?_
    refine e_loadA (i := 0) und24 rfl siz24 rfl rfl (arr_size _ _ _) rfl ?_
    refine e_loadA (i := 1) und24 rfl siz24 rfl rfl (arr_size _ _ _) rfl ?_
    refine e_call rfl ent20 (minus_fn _ _ (by omega) (by omega)) rfl ?_
    refine e_move rfl rfl ?_
    refine e_extract rfl rfl rfl ?_
    refine e_extract rfl rfl rfl ?_
    refine e_as (congrArg u ht.symm) ?_
    refine e_alloc 3 zer24 rfl fun r4 => ?_
    refine e_storeA (i := 3) siz24 rfl rfl (arr_size _ _ _) arr_one rfl (arr_sz _ _ _ _ _) ?_
    refine e_assign rfl rfl ?_
    refine e_nil ?_
    refine e_seq ?_
    refine e_draw mixed (by kernel_rfl) ?_
    refine e_loadA (i := 3) und24 rfl siz24 rfl rfl (arr_size _ _ _) rfl ?_
    refine e_call rfl ent22 prime_fn rfl ?_
    refine e_move rfl rfl ?_
    refine e_call rfl ent21 (times_fn _ _ (by omega)) rfl ?_
    refine e_call rfl ent18 (plus_fn _ _ (by omega) (by omega)) rfl ?_
    refine e_move rfl rfl ?_
    refine e_extract rfl rfl rfl ?_
    refine e_extract rfl rfl rfl ?_
    refine e_storeA (i := 3) siz24 rfl rfl (arr_size _ _ _) arr_one rfl (arr_sz _ _ _ _ _) ?_
    refine e_nil ?_
    refine e_seq ?_
    refine e_plain ?_
    refine e_loadA (i := 3) und24 rfl siz24 rfl rfl (arr_size _ _ _) rfl ?_
    refine e_storeA (i := 2) siz24 rfl rfl (arr_size _ _ _) arr_one rfl (arr_sz _ _ _ _ _) ?_
    refine e_assign rfl rfl ?_
    refine e_nil ?_
    refine e_ret ?_
    rw [← sub_fin a b ha hb, ← ht]
    exact ⟨_, _, rfl, .cell (i := 2) rfl rfl und24 rfl siz24 (arr_size _ _ _), .tmp rfl⟩

set_option maxHeartbeats 400000 in
theorem sub_bada (a b : Nat) (ha : ¬ a < PP) (ha2 : a < 2 ^ 256) : Fn Tryd.prog G 8 #[fe a, fe b] (.tuple #[.agg (arr .u64 4 (fun _ => 0)), ii 6]) := by
  have hPP := PP_eq
  refine fn2 (n := 32) Tryd.func8 rfl rfl (by simp) (argE [fe a, fe b] 0) (argE_ok _) ?_
  refine e_seq ?_
  refine e_plain ?_
  refine e_box 0 rfl rfl fun r1 => ?_
  refine e_box 1 rfl rfl fun r2 => ?_
  refine e_alloc 2 zer24 rfl fun r3 => ?_
  refine e_assign rfl rfl ?_
  refine e_nil ?_
  refine e_seq ?_
  refine e_seq ?_
  refine e_plain ?_
  refine e_loadA (i := 0) und24 rfl siz24 rfl rfl (arr_size _ _ _) rfl ?_
  refine e_call rfl ent17 (below_fn _ (by omega)) rfl ?_
  refine e_not rfl rfl ?_
  refine e_as (congrArg Value.bool (show (!decide (a < PP)) = true by simp [ha])) ?_
  refine e_move rfl rfl ?_
  refine e_no rfl rfl (by decide) rfl ?_
  refine e_no rfl rfl (by decide) rfl ?_
  refine e_no rfl rfl (by decide) rfl ?_
  refine e_pickT rfl rfl rfl rfl ?_
  refine e_nil ?_
  refine e_cond rfl ?_ ?_
  · intro hc0
    refine e_seq ?_
    refine e_plain ?_
    refine e_build0 zer24 und24 sis22 rfl ?_
    refine e_storeA (i := 2) siz24 rfl rfl (arr_size _ _ _) arr_one rfl (arr_sz _ _ _ _ _) ?_
    refine e_assign rfl rfl ?_
    refine e_nil ?_
    refine e_ret ?_
    exact ⟨_, _, rfl, .cell (i := 2) rfl rfl und24 rfl siz24 (arr_size _ _ _), .tmp rfl⟩
  · intro hc0
    cases hc0

set_option maxHeartbeats 400000 in
theorem sub_badb (a b : Nat) (ha : a < PP) (hb : ¬ b < PP) (hb2 : b < 2 ^ 256) : Fn Tryd.prog G 8 #[fe a, fe b] (.tuple #[.agg (arr .u64 4 (fun _ => 0)), ii 6]) := by
  have hPP := PP_eq
  refine fn2 (n := 32) Tryd.func8 rfl rfl (by simp) (argE [fe a, fe b] 0) (argE_ok _) ?_
  refine e_seq ?_
  refine e_plain ?_
  refine e_box 0 rfl rfl fun r1 => ?_
  refine e_box 1 rfl rfl fun r2 => ?_
  refine e_alloc 2 zer24 rfl fun r3 => ?_
  refine e_assign rfl rfl ?_
  refine e_nil ?_
  refine e_seq ?_
  refine e_seq ?_
  refine e_plain ?_
  refine e_loadA (i := 0) und24 rfl siz24 rfl rfl (arr_size _ _ _) rfl ?_
  refine e_call rfl ent17 (below_fn _ (by omega)) rfl ?_
  refine e_not rfl rfl ?_
  refine e_as (congrArg Value.bool (show (!decide (a < PP)) = false by simp [ha])) ?_
  refine e_move rfl rfl ?_
  refine e_yes rfl rfl rfl ?_
  refine e_loadA (i := 1) und24 rfl siz24 rfl rfl (arr_size _ _ _) rfl ?_
  refine e_yes rfl rfl rfl ?_
  refine e_call rfl ent17 (below_fn _ (by omega)) rfl ?_
  refine e_yes rfl rfl rfl ?_
  refine e_not rfl rfl ?_
  refine e_as (congrArg Value.bool (show (!decide (b < PP)) = true by simp [hb])) ?_
  refine e_pickF rfl rfl rfl rfl ?_
  refine e_nil ?_
  refine e_cond rfl ?_ ?_
  · intro hc0
    refine e_seq ?_
    refine e_plain ?_
    refine e_build0 zer24 und24 sis22 rfl ?_
    refine e_storeA (i := 2) siz24 rfl rfl (arr_size _ _ _) arr_one rfl (arr_sz _ _ _ _ _) ?_
    refine e_assign rfl rfl ?_
    refine e_nil ?_
    refine e_ret ?_
    exact ⟨_, _, rfl, .cell (i := 2) rfl rfl und24 rfl siz24 (arr_size _ _ _), .tmp rfl⟩
  · intro hc0
    cases hc0

set_option maxHeartbeats 400000 in
theorem mul_ok (a b : Nat) (ha : a < PP) (hb : b < PP) : Fn Tryd.prog G 10 #[fe a, fe b] (.tuple #[fe (a * b % PP), ii 0]) := by
  have hPP := PP_eq
  refine fn2 (n := 18) Tryd.func10 rfl rfl (by simp) (argE [fe a, fe b] 0) (argE_ok _) ?_
  refine e_seq ?_
  refine e_plain ?_
  refine e_box 0 rfl rfl fun r1 => ?_
  refine e_box 1 rfl rfl fun r2 => ?_
  refine e_alloc 2 zer24 rfl fun r3 => ?_
  refine e_assign rfl rfl ?_
  refine e_nil ?_
  refine e_seq ?_
  refine e_seq ?_
  refine e_plain ?_
  refine e_loadA (i := 0) und24 rfl siz24 rfl rfl (arr_size _ _ _) rfl ?_
  refine e_call rfl ent17 (below_fn _ (by omega)) rfl ?_
  refine e_not rfl rfl ?_
  refine e_as (congrArg Value.bool (show (!decide (a < PP)) = false by simp [ha])) ?_
  refine e_move rfl rfl ?_
  refine e_yes rfl rfl rfl ?_
  refine e_loadA (i := 1) und24 rfl siz24 rfl rfl (arr_size _ _ _) rfl ?_
  refine e_yes rfl rfl rfl ?_
  refine e_call rfl ent17 (below_fn _ (by omega)) rfl ?_
  refine e_yes rfl rfl rfl ?_
  refine e_not rfl rfl ?_
  refine e_as (congrArg Value.bool (show (!decide (b < PP)) = false by simp [hb])) ?_
  refine e_pickF rfl rfl rfl rfl ?_
  refine e_nil ?_
  refine e_cond rfl ?_ ?_
  · intro hc0
    cases hc0
  · intro hc0
    refine e_skip ?_
    refine e_seq ?_
    refine e_plain ?_
    refine e_loadA (i := 0) und24 rfl siz24 rfl rfl (arr_size _ _ _) rfl ?_
    refine e_loadA (i := 1) und24 rfl siz24 rfl rfl (arr_size _ _ _) rfl ?_
    refine e_call rfl ent29 (product_fn _ _ (by omega) (by omega)) rfl ?_
    refine e_storeA (i := 2) siz24 rfl rfl (arr_size _ _ _) arr_one rfl (arr_sz _ _ _ _ _) ?_
    refine e_assign rfl rfl ?_
    refine e_nil ?_
    refine e_ret ?_
    exact ⟨_, _, rfl, .cell (i := 2) rfl rfl und24 rfl siz24 (arr_size _ _ _), .tmp rfl⟩

set_option maxHeartbeats 400000 in
theorem mul_bada (a b : Nat) (ha : ¬ a < PP) (ha2 : a < 2 ^ 256) : Fn Tryd.prog G 10 #[fe a, fe b] (.tuple #[.agg (arr .u64 4 (fun _ => 0)), ii 6]) := by
  have hPP := PP_eq
  refine fn2 (n := 18) Tryd.func10 rfl rfl (by simp) (argE [fe a, fe b] 0) (argE_ok _) ?_
  refine e_seq ?_
  refine e_plain ?_
  refine e_box 0 rfl rfl fun r1 => ?_
  refine e_box 1 rfl rfl fun r2 => ?_
  refine e_alloc 2 zer24 rfl fun r3 => ?_
  refine e_assign rfl rfl ?_
  refine e_nil ?_
  refine e_seq ?_
  refine e_seq ?_
  refine e_plain ?_
  refine e_loadA (i := 0) und24 rfl siz24 rfl rfl (arr_size _ _ _) rfl ?_
  refine e_call rfl ent17 (below_fn _ (by omega)) rfl ?_
  refine e_not rfl rfl ?_
  refine e_as (congrArg Value.bool (show (!decide (a < PP)) = true by simp [ha])) ?_
  refine e_move rfl rfl ?_
  refine e_no rfl rfl (by decide) rfl ?_
  refine e_no rfl rfl (by decide) rfl ?_
  refine e_no rfl rfl (by decide) rfl ?_
  refine e_pickT rfl rfl rfl rfl ?_
  refine e_nil ?_
  refine e_cond rfl ?_ ?_
  · intro hc0
    refine e_seq ?_
    refine e_plain ?_
    refine e_build0 zer24 und24 sis22 rfl ?_
    refine e_storeA (i := 2) siz24 rfl rfl (arr_size _ _ _) arr_one rfl (arr_sz _ _ _ _ _) ?_
    refine e_assign rfl rfl ?_
    refine e_nil ?_
    refine e_ret ?_
    exact ⟨_, _, rfl, .cell (i := 2) rfl rfl und24 rfl siz24 (arr_size _ _ _), .tmp rfl⟩
  · intro hc0
    cases hc0

set_option maxHeartbeats 400000 in
theorem mul_badb (a b : Nat) (ha : a < PP) (hb : ¬ b < PP) (hb2 : b < 2 ^ 256) : Fn Tryd.prog G 10 #[fe a, fe b] (.tuple #[.agg (arr .u64 4 (fun _ => 0)), ii 6]) := by
  have hPP := PP_eq
  refine fn2 (n := 18) Tryd.func10 rfl rfl (by simp) (argE [fe a, fe b] 0) (argE_ok _) ?_
  refine e_seq ?_
  refine e_plain ?_
  refine e_box 0 rfl rfl fun r1 => ?_
  refine e_box 1 rfl rfl fun r2 => ?_
  refine e_alloc 2 zer24 rfl fun r3 => ?_
  refine e_assign rfl rfl ?_
  refine e_nil ?_
  refine e_seq ?_
  refine e_seq ?_
  refine e_plain ?_
  refine e_loadA (i := 0) und24 rfl siz24 rfl rfl (arr_size _ _ _) rfl ?_
  refine e_call rfl ent17 (below_fn _ (by omega)) rfl ?_
  refine e_not rfl rfl ?_
  refine e_as (congrArg Value.bool (show (!decide (a < PP)) = false by simp [ha])) ?_
  refine e_move rfl rfl ?_
  refine e_yes rfl rfl rfl ?_
  refine e_loadA (i := 1) und24 rfl siz24 rfl rfl (arr_size _ _ _) rfl ?_
  refine e_yes rfl rfl rfl ?_
  refine e_call rfl ent17 (below_fn _ (by omega)) rfl ?_
  refine e_yes rfl rfl rfl ?_
  refine e_not rfl rfl ?_
  refine e_as (congrArg Value.bool (show (!decide (b < PP)) = true by simp [hb])) ?_
  refine e_pickF rfl rfl rfl rfl ?_
  refine e_nil ?_
  refine e_cond rfl ?_ ?_
  · intro hc0
    refine e_seq ?_
    refine e_plain ?_
    refine e_build0 zer24 und24 sis22 rfl ?_
    refine e_storeA (i := 2) siz24 rfl rfl (arr_size _ _ _) arr_one rfl (arr_sz _ _ _ _ _) ?_
    refine e_assign rfl rfl ?_
    refine e_nil ?_
    refine e_ret ?_
    exact ⟨_, _, rfl, .cell (i := 2) rfl rfl und24 rfl siz24 (arr_size _ _ _), .tmp rfl⟩
  · intro hc0
    cases hc0

set_option maxHeartbeats 400000 in
theorem inv_ok (a : Nat) (ha : a < PP) : Fn Tryd.prog G 11 #[fe a] (.tuple #[fe (a ^ EE % PP), ii 0]) := by
  have hPP := PP_eq
  refine fn2 (n := 10) Tryd.func11 rfl rfl (by simp) (argE [fe a] 0) (argE_ok _) ?_
  refine e_seq ?_
  refine e_plain ?_
  refine e_box 0 rfl rfl fun r1 => ?_
  refine e_alloc 1 zer24 rfl fun r2 => ?_
  refine e_assign rfl rfl ?_
  refine e_nil ?_
  refine e_seq ?_
  refine e_seq ?_
  refine e_plain ?_
  refine e_loadA (i := 0) und24 rfl siz24 rfl rfl (arr_size _ _ _) rfl ?_
  refine e_call rfl ent17 (below_fn _ (by omega)) rfl ?_
  refine e_not rfl rfl ?_
  refine e_as (congrArg Value.bool (show (!decide (a < PP)) = false by simp [ha])) ?_
  refine e_nil ?_
  refine e_cond rfl ?_ ?_
  · intro hc0
    cases hc0
  · intro hc0
    refine e_skip ?_
    refine e_seq ?_
    refine e_plain ?_
    refine e_loadA (i := 0) und24 rfl siz24 rfl rfl (arr_size _ _ _) rfl ?_
    refine e_call rfl ent30 (inverse_fn _ (by omega)) rfl ?_
    refine e_storeA (i := 1) siz24 rfl rfl (arr_size _ _ _) arr_one rfl (arr_sz _ _ _ _ _) ?_
    refine e_assign rfl rfl ?_
    refine e_nil ?_
    refine e_ret ?_
    exact ⟨_, _, rfl, .cell (i := 1) rfl rfl und24 rfl siz24 (arr_size _ _ _), .tmp rfl⟩

set_option maxHeartbeats 400000 in
theorem inv_bad (a : Nat) (ha : ¬ a < PP) (ha2 : a < 2 ^ 256) : Fn Tryd.prog G 11 #[fe a] (.tuple #[.agg (arr .u64 4 (fun _ => 0)), ii 6]) := by
  have hPP := PP_eq
  refine fn2 (n := 10) Tryd.func11 rfl rfl (by simp) (argE [fe a] 0) (argE_ok _) ?_
  refine e_seq ?_
  refine e_plain ?_
  refine e_box 0 rfl rfl fun r1 => ?_
  refine e_alloc 1 zer24 rfl fun r2 => ?_
  refine e_assign rfl rfl ?_
  refine e_nil ?_
  refine e_seq ?_
  refine e_seq ?_
  refine e_plain ?_
  refine e_loadA (i := 0) und24 rfl siz24 rfl rfl (arr_size _ _ _) rfl ?_
  refine e_call rfl ent17 (below_fn _ (by omega)) rfl ?_
  refine e_not rfl rfl ?_
  refine e_as (congrArg Value.bool (show (!decide (a < PP)) = true by simp [ha])) ?_
  refine e_nil ?_
  refine e_cond rfl ?_ ?_
  · intro hc0
    refine e_seq ?_
    refine e_plain ?_
    refine e_build0 zer24 und24 sis22 rfl ?_
    refine e_storeA (i := 1) siz24 rfl rfl (arr_size _ _ _) arr_one rfl (arr_sz _ _ _ _ _) ?_
    refine e_assign rfl rfl ?_
    refine e_nil ?_
    refine e_ret ?_
    exact ⟨_, _, rfl, .cell (i := 1) rfl rfl und24 rfl siz24 (arr_size _ _ _), .tmp rfl⟩
  · intro hc0
    cases hc0

end Go.Proofs.YtkoigikldikmmaaDoor
