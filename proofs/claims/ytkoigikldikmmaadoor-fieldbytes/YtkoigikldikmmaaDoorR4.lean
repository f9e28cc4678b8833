/-
  Walks, written by a program of ours off the loaded functions.
-/
import Derived.Test.YtkoigikldikmmaaDoorR3
namespace Go.Proofs.YtkoigikldikmmaaDoor
open Go Go.RowKit


theorem ent10 : enters Tryd.prog 10 = true := by kernel_rfl
theorem ent28 : enters Tryd.prog 28 = true := by kernel_rfl

variable {G : Mem}

set_option maxHeartbeats 400000 in
theorem reck3_ok (a b : Nat) (ha : a < PP) (hb : b < PP) : Fn Tryd.prog [⟨0, arr .u64 16 (d16 PP), 42⟩] 9 #[ii 3, fe a, fe b] (.tuple #[fe (a * b % PP), ii 0]) := by
  have hPP := PP_eq
  have hm1 := Nat.mod_lt (PP - b) PP_pos
  refine fn2 (n := 41) Tryd.func9 rfl rfl (by simp) (argE [ii 3, fe a, fe b] 0) (argE_ok _) ?_
  refine e_seq ?_
  refine e_plain ?_
  refine e_box 0 rfl rfl fun r1 => ?_
  refine e_box 1 rfl rfl fun r2 => ?_
  refine e_alloc 2 zer24 rfl fun r3 => ?_
  refine e_assign rfl rfl ?_
  refine e_nil ?_
  refine e_seq ?_
  refine e_seq ?_
  refine e_plain ?_
  refine e_loadA (i := 0) und24 rfl siz24 rfl rfl (arr_size _ _ _) rfl ?_
  refine e_call rfl ent23 (in_fn _ (by omega)) rfl ?_
  refine e_not rfl rfl ?_
  refine e_as (congrArg Value.bool (show (!decide (a < PP)) = false by simp [ha])) ?_
  refine e_move rfl rfl ?_
  refine e_yes rfl rfl rfl ?_
  refine e_loadA (i := 1) und24 rfl siz24 rfl rfl (arr_size _ _ _) rfl ?_
  refine e_yes rfl rfl rfl ?_
  refine e_call rfl ent23 (in_fn _ (by omega)) rfl ?_
  refine e_yes rfl rfl rfl ?_
  refine e_not rfl rfl ?_
  refine e_as (congrArg Value.bool (show (!decide (b < PP)) = false by simp [hb])) ?_
  refine e_pickF rfl rfl rfl rfl ?_
  refine e_nil ?_
  refine e_cond rfl ?_ ?_
  · intro hc0
    cases hc0
  · intro hc0
    refine e_skip ?_
    refine e_seq ?_
    refine e_draw mixed (by kernel_rfl) ?_
    refine e_loadA (i := 0) und24 rfl siz24 rfl rfl (arr_size _ _ _) rfl ?_
    refine e_call rfl ent24 (of_fn _) rfl ?_
    refine e_loadA (i := 1) und24 rfl siz24 rfl rfl (arr_size _ _ _) rfl ?_
    refine e_call rfl ent24 (of_fn _) rfl ?_
    refine e_alloc 3 zer42 rfl fun r4 => ?_
    refine e_alloc 4 zer42 rfl fun r5 => ?_
    refine e_storeA (i := 3) siz42 rfl rfl (arr_size _ _ _) arr_one rfl (arr_sz _ _ _ _ _) ?_
    refine e_storeA (i := 4) siz42 rfl rfl (arr_size _ _ _) arr_one rfl (arr_sz _ _ _ _ _) ?_
    refine e_nil ?_
    refine e_seq ?_
    refine e_seq ?_
    refine e_plain ?_
    refine e_move rfl rfl ?_
    refine e_nil ?_
    refine e_block ?_
    refine e_seq ?_
    refine e_plain ?_
    refine e_eq rfl rfl rfl ?_
    refine e_as (congrArg Value.bool (decide_eq_false (by decide))) ?_
    refine e_assign rfl rfl ?_
    refine e_nil ?_
    refine e_cond rfl ?_ ?_
    · intro hc1
      cases hc1
    · intro hc1
      refine e_seq ?_
      refine e_plain ?_
      refine e_eq rfl rfl rfl ?_
      refine e_as (congrArg Value.bool (decide_eq_false (by decide))) ?_
      refine e_assign rfl rfl ?_
      refine e_nil ?_
      refine e_cond rfl ?_ ?_
      · intro hc2
        cases hc2
      · intro hc2
        refine e_skip ?_
        refine e_seq ?_
        refine e_plain ?_
        refine e_loadA (i := 3) und42 rfl siz42 rfl rfl (arr_size _ _ _) rfl ?_
        refine e_loadA (i := 4) und42 rfl siz42 rfl rfl (arr_size _ _ _) rfl ?_
        refine e_call rfl ent28 (prod16_fn a b (by omega) (by omega)) rfl ?_
        refine e_call rfl ent25 (back_fn (d16 (a * b % PP)) (fun j _ => d16_lt _ j)) rfl ?_
        refine e_as (congrArg fe (vs_dg (a * b % PP) (Nat.lt_trans (Nat.mod_lt _ (by decide)) (by decide)))) ?_
        refine e_storeA (i := 2) siz24 rfl rfl (arr_size _ _ _) arr_one rfl (arr_sz _ _ _ _ _) ?_
        refine e_assign rfl rfl ?_
        refine e_nil ?_
        refine e_ret ?_
        exact ⟨_, _, rfl, .cell (i := 2) rfl rfl und24 rfl siz24 (arr_size _ _ _), .tmp rfl⟩

set_option maxHeartbeats 400000 in
theorem prods_ok (a b : Nat) (ha : a < PP) (hb : b < PP) : Fn Tryd.prog [⟨0, arr .u64 16 (d16 PP), 42⟩] 4 #[fe a, fe b] (.bool true) := by
  refine fn1 (n := 29) Tryd.func4 rfl rfl (by simp) (argE [fe a, fe b] 0) (argE_ok _) ?_
  refine e_seq ?_
  refine e_plain ?_
  refine e_box 0 rfl rfl fun r1 => ?_
  refine e_box 1 rfl rfl fun r2 => ?_
  refine e_assign rfl rfl ?_
  refine e_nil ?_
  refine e_seq ?_
  refine e_plain ?_
  refine e_loadA (i := 0) und24 rfl siz24 rfl rfl (arr_size _ _ _) rfl ?_
  refine e_loadA (i := 1) und24 rfl siz24 rfl rfl (arr_size _ _ _) rfl ?_
  refine e_call rfl ent10 (mul_ok a b ha hb) rfl ?_
  refine e_move rfl rfl ?_
  refine e_extract rfl rfl rfl ?_
  refine e_extract rfl rfl rfl ?_
  refine e_alloc 2 zer24 rfl fun r3 => ?_
  refine e_storeA (i := 2) siz24 rfl rfl (arr_size _ _ _) arr_one rfl (arr_sz _ _ _ _ _) ?_
  refine e_assign rfl rfl ?_
  refine e_nil ?_
  refine e_seq ?_
  refine e_plain ?_
  refine e_loadA (i := 0) und24 rfl siz24 rfl rfl (arr_size _ _ _) rfl ?_
  refine e_loadA (i := 1) und24 rfl siz24 rfl rfl (arr_size _ _ _) rfl ?_
  refine e_call rfl ent9 (reck3_ok a b ha hb) rfl ?_
  refine e_move rfl rfl ?_
  refine e_extract rfl rfl rfl ?_
  refine e_extract rfl rfl rfl ?_
  refine e_alloc 3 zer24 rfl fun r4 => ?_
  refine e_storeA (i := 3) siz24 rfl rfl (arr_size _ _ _) arr_one rfl (arr_sz _ _ _ _ _) ?_
  refine e_assign rfl rfl ?_
  refine e_nil ?_
  refine e_seq ?_
  refine e_plain ?_
  refine e_loadA (i := 2) und24 rfl siz24 rfl rfl (arr_size _ _ _) rfl ?_
  refine e_loadA (i := 3) und24 rfl siz24 rfl rfl (arr_size _ _ _) rfl ?_
  refine e_eqA und24 und22 siz22 eqg24 rfl rfl rfl ?_
  refine e_as (congrArg Value.bool (allEq_iff.2 (fun _ _ => rfl))) ?_
  refine e_move rfl rfl ?_
  refine e_yes rfl rfl rfl ?_
  refine e_move rfl rfl ?_
  refine e_yes rfl rfl rfl ?_
  refine e_move rfl rfl ?_
  refine e_yes rfl rfl rfl ?_
  refine e_eq rfl rfl rfl ?_
  refine e_as (congrArg Value.bool (decide_eq_true rfl)) ?_
  refine e_pickT rfl rfl rfl rfl ?_
  refine e_assign rfl rfl ?_
  refine e_nil ?_
  refine e_ret ?_
  exact ⟨_, rfl, .tmp rfl⟩

set_option maxHeartbeats 400000 in
theorem prods_bada (a b : Nat) (ha : ¬ a < PP) (ha2 : a < 2 ^ 256) : Fn Tryd.prog [⟨0, arr .u64 16 (d16 PP), 42⟩] 4 #[fe a, fe b] (.bool true) := by
  refine fn1 (n := 29) Tryd.func4 rfl rfl (by simp) (argE [fe a, fe b] 0) (argE_ok _) ?_
  refine e_seq ?_
  refine e_plain ?_
  refine e_box 0 rfl rfl fun r1 => ?_
  refine e_box 1 rfl rfl fun r2 => ?_
  refine e_assign rfl rfl ?_
  refine e_nil ?_
  refine e_seq ?_
  refine e_plain ?_
  refine e_loadA (i := 0) und24 rfl siz24 rfl rfl (arr_size _ _ _) rfl ?_
  refine e_loadA (i := 1) und24 rfl siz24 rfl rfl (arr_size _ _ _) rfl ?_
  refine e_call rfl ent10 (mul_bada a b ha ha2) rfl ?_
  refine e_move rfl rfl ?_
  refine e_extract rfl rfl rfl ?_
  refine e_extract rfl rfl rfl ?_
  refine e_alloc 2 zer24 rfl fun r3 => ?_
  refine e_storeA (i := 2) siz24 rfl rfl (arr_size _ _ _) arr_one rfl (arr_sz _ _ _ _ _) ?_
  refine e_assign rfl rfl ?_
  refine e_nil ?_
  refine e_seq ?_
  refine e_plain ?_
  refine e_loadA (i := 0) und24 rfl siz24 rfl rfl (arr_size _ _ _) rfl ?_
  refine e_loadA (i := 1) und24 rfl siz24 rfl rfl (arr_size _ _ _) rfl ?_
  refine e_call rfl ent9 (reck_bada 3 a b ha ha2) rfl ?_
  refine e_move rfl rfl ?_
  refine e_extract rfl rfl rfl ?_
  refine e_extract rfl rfl rfl ?_
  refine e_alloc 3 zer24 rfl fun r4 => ?_
  refine e_storeA (i := 3) siz24 rfl rfl (arr_size _ _ _) arr_one rfl (arr_sz _ _ _ _ _) ?_
  refine e_assign rfl rfl ?_
  refine e_nil ?_
  refine e_seq ?_
  refine e_plain ?_
  refine e_loadA (i := 2) und24 rfl siz24 rfl rfl (arr_size _ _ _) rfl ?_
  refine e_loadA (i := 3) und24 rfl siz24 rfl rfl (arr_size _ _ _) rfl ?_
  refine e_eqA und24 und22 siz22 eqg24 rfl rfl rfl ?_
  refine e_as (congrArg Value.bool (allEq_iff.2 (fun _ _ => rfl))) ?_
  refine e_move rfl rfl ?_
  refine e_yes rfl rfl rfl ?_
  refine e_move rfl rfl ?_
  refine e_yes rfl rfl rfl ?_
  refine e_move rfl rfl ?_
  refine e_yes rfl rfl rfl ?_
  refine e_eq rfl rfl rfl ?_
  refine e_as (congrArg Value.bool (decide_eq_true rfl)) ?_
  refine e_pickT rfl rfl rfl rfl ?_
  refine e_assign rfl rfl ?_
  refine e_nil ?_
  refine e_ret ?_
  exact ⟨_, rfl, .tmp rfl⟩

set_option maxHeartbeats 400000 in
theorem prods_badb (a b : Nat) (ha : a < PP) (hb : ¬ b < PP) (hb2 : b < 2 ^ 256) : Fn Tryd.prog [⟨0, arr .u64 16 (d16 PP), 42⟩] 4 #[fe a, fe b] (.bool true) := by
  refine fn1 (n := 29) Tryd.func4 rfl rfl (by simp) (argE [fe a, fe b] 0) (argE_ok _) ?_
  refine e_seq ?_
  refine e_plain ?_
  refine e_box 0 rfl rfl fun r1 => ?_
  refine e_box 1 rfl rfl fun r2 => ?_
  refine e_assign rfl rfl ?_
  refine e_nil ?_
  refine e_seq ?_
  refine e_plain ?_
  refine e_loadA (i := 0) und24 rfl siz24 rfl rfl (arr_size _ _ _) rfl ?_
  refine e_loadA (i := 1) und24 rfl siz24 rfl rfl (arr_size _ _ _) rfl ?_
  refine e_call rfl ent10 (mul_badb a b ha hb hb2) rfl ?_
  refine e_move rfl rfl ?_
  refine e_extract rfl rfl rfl ?_
  refine e_extract rfl rfl rfl ?_
  refine e_alloc 2 zer24 rfl fun r3 => ?_
  refine e_storeA (i := 2) siz24 rfl rfl (arr_size _ _ _) arr_one rfl (arr_sz _ _ _ _ _) ?_
  refine e_assign rfl rfl ?_
  refine e_nil ?_
  refine e_seq ?_
  refine e_plain ?_
  refine e_loadA (i := 0) und24 rfl siz24 rfl rfl (arr_size _ _ _) rfl ?_
  refine e_loadA (i := 1) und24 rfl siz24 rfl rfl (arr_size _ _ _) rfl ?_
  refine e_call rfl ent9 (reck_badb 3 a b ha hb hb2) rfl ?_
  refine e_move rfl rfl ?_
  refine e_extract rfl rfl rfl ?_
  refine e_extract rfl rfl rfl ?_
  refine e_alloc 3 zer24 rfl fun r4 => ?_
  refine e_storeA (i := 3) siz24 rfl rfl (arr_size _ _ _) arr_one rfl (arr_sz _ _ _ _ _) ?_
  refine e_assign rfl rfl ?_
  refine e_nil ?_
  refine e_seq ?_
  refine e_plain ?_
  refine e_loadA (i := 2) und24 rfl siz24 rfl rfl (arr_size _ _ _) rfl ?_
  refine e_loadA (i := 3) und24 rfl siz24 rfl rfl (arr_size _ _ _) rfl ?_
  refine e_eqA und24 und22 siz22 eqg24 rfl rfl rfl ?_
  refine e_as (congrArg Value.bool (allEq_iff.2 (fun _ _ => rfl))) ?_
  refine e_move rfl rfl ?_
  refine e_yes rfl rfl rfl ?_
  refine e_move rfl rfl ?_
  refine e_yes rfl rfl rfl ?_
  refine e_move rfl rfl ?_
  refine e_yes rfl rfl rfl ?_
  refine e_eq rfl rfl rfl ?_
  refine e_as (congrArg Value.bool (decide_eq_true rfl)) ?_
  refine e_pickT rfl rfl rfl rfl ?_
  refine e_assign rfl rfl ?_
  refine e_nil ?_
  refine e_ret ?_
  exact ⟨_, rfl, .tmp rfl⟩

end Go.Proofs.YtkoigikldikmmaaDoor
