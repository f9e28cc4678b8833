/-
  Walks, written by a program of ours off the loaded functions.
-/
import Derived.Test.YtkoigikldikmmaaDoorR2
namespace Go.Proofs.YtkoigikldikmmaaDoor
open Go Go.RowKit


theorem ent7 : enters Tryd.prog 7 = true := by kernel_rfl
theorem ent8 : enters Tryd.prog 8 = true := by kernel_rfl
theorem ent9 : enters Tryd.prog 9 = true := by kernel_rfl
theorem eqg24 : Tryd.prog.eqGuardType Tryd.prog.depth 24 = false := by kernel_rfl

variable {G : Mem}

set_option maxHeartbeats 400000 in
theorem sums_ok (a b : Nat) (ha : a < PP) (hb : b < PP) : Fn Tryd.prog [⟨0, arr .u64 16 (d16 PP), 42⟩] 3 #[fe a, fe b] (.bool true) := by
  refine fn1 (n := 55) Tryd.func3 rfl rfl (by simp) (argE [fe a, fe b] 0) (argE_ok _) ?_
  refine e_seq ?_
  refine e_plain ?_
  refine e_box 0 rfl rfl fun r1 => ?_
  refine e_box 1 rfl rfl fun r2 => ?_
  refine e_assign rfl rfl ?_
  refine e_nil ?_
  refine e_seq ?_
  refine e_plain ?_
  refine e_loadA (i := 0) und24 rfl siz24 rfl rfl (arr_size _ _ _) rfl ?_
  refine e_loadA (i := 1) und24 rfl siz24 rfl rfl (arr_size _ _ _) rfl ?_
  refine e_call rfl ent7 (add_ok a b ha hb) rfl ?_
  refine e_move rfl rfl ?_
  refine e_extract rfl rfl rfl ?_
  refine e_extract rfl rfl rfl ?_
  refine e_alloc 2 zer24 rfl fun r3 => ?_
  refine e_storeA (i := 2) siz24 rfl rfl (arr_size _ _ _) arr_one rfl (arr_sz _ _ _ _ _) ?_
  refine e_assign rfl rfl ?_
  refine e_nil ?_
  refine e_seq ?_
  refine e_plain ?_
  refine e_loadA (i := 0) und24 rfl siz24 rfl rfl (arr_size _ _ _) rfl ?_
  refine e_loadA (i := 1) und24 rfl siz24 rfl rfl (arr_size _ _ _) rfl ?_
  refine e_call rfl ent8 (sub_ok a b ha hb) rfl ?_
  refine e_move rfl rfl ?_
  refine e_extract rfl rfl rfl ?_
  refine e_extract rfl rfl rfl ?_
  refine e_alloc 3 zer24 rfl fun r4 => ?_
  refine e_storeA (i := 3) siz24 rfl rfl (arr_size _ _ _) arr_one rfl (arr_sz _ _ _ _ _) ?_
  refine e_assign rfl rfl ?_
  refine e_nil ?_
  refine e_seq ?_
  refine e_plain ?_
  refine e_loadA (i := 0) und24 rfl siz24 rfl rfl (arr_size _ _ _) rfl ?_
  refine e_loadA (i := 1) und24 rfl siz24 rfl rfl (arr_size _ _ _) rfl ?_
  refine e_call rfl ent9 (reck1_ok a b ha hb) rfl ?_
  refine e_move rfl rfl ?_
  refine e_extract rfl rfl rfl ?_
  refine e_extract rfl rfl rfl ?_
  refine e_alloc 4 zer24 rfl fun r5 => ?_
  refine e_storeA (i := 4) siz24 rfl rfl (arr_size _ _ _) arr_one rfl (arr_sz _ _ _ _ _) ?_
  refine e_assign rfl rfl ?_
  refine e_nil ?_
  refine e_seq ?_
  refine e_plain ?_
  refine e_loadA (i := 0) und24 rfl siz24 rfl rfl (arr_size _ _ _) rfl ?_
  refine e_loadA (i := 1) und24 rfl siz24 rfl rfl (arr_size _ _ _) rfl ?_
  refine e_call rfl ent9 (reck2_ok a b ha hb) rfl ?_
  refine e_move rfl rfl ?_
  refine e_extract rfl rfl rfl ?_
  refine e_extract rfl rfl rfl ?_
  refine e_alloc 5 zer24 rfl fun r6 => ?_
  refine e_storeA (i := 5) siz24 rfl rfl (arr_size _ _ _) arr_one rfl (arr_sz _ _ _ _ _) ?_
  refine e_assign rfl rfl ?_
  refine e_nil ?_
  refine e_seq ?_
  refine e_plain ?_
  refine e_loadA (i := 2) und24 rfl siz24 rfl rfl (arr_size _ _ _) rfl ?_
  refine e_loadA (i := 4) und24 rfl siz24 rfl rfl (arr_size _ _ _) rfl ?_
  refine e_eqA und24 und22 siz22 eqg24 rfl rfl rfl ?_
  refine e_as (congrArg Value.bool (allEq_iff.2 (fun _ _ => rfl))) ?_
  refine e_move rfl rfl ?_
  refine e_yes rfl rfl rfl ?_
  refine e_move rfl rfl ?_
  refine e_yes rfl rfl rfl ?_
  refine e_move rfl rfl ?_
  refine e_yes rfl rfl rfl ?_
  refine e_eq rfl rfl rfl ?_
  refine e_as (congrArg Value.bool (decide_eq_true rfl)) ?_
  refine e_pickT rfl rfl rfl rfl ?_
  refine e_move rfl rfl ?_
  refine e_yes rfl rfl rfl ?_
  refine e_loadA (i := 3) und24 rfl siz24 rfl rfl (arr_size _ _ _) rfl ?_
  refine e_yes rfl rfl rfl ?_
  refine e_loadA (i := 5) und24 rfl siz24 rfl rfl (arr_size _ _ _) rfl ?_
  refine e_yes rfl rfl rfl ?_
  refine e_eqA und24 und22 siz22 eqg24 rfl rfl rfl ?_
  refine e_as (congrArg Value.bool (allEq_iff.2 (fun _ _ => rfl))) ?_
  refine e_pickT rfl rfl rfl rfl ?_
  refine e_move rfl rfl ?_
  refine e_yes rfl rfl rfl ?_
  refine e_move rfl rfl ?_
  refine e_yes rfl rfl rfl ?_
  refine e_move rfl rfl ?_
  refine e_yes rfl rfl rfl ?_
  refine e_eq rfl rfl rfl ?_
  refine e_as (congrArg Value.bool (decide_eq_true rfl)) ?_
  refine e_pickT rfl rfl rfl rfl ?_
  refine e_assign rfl rfl ?_
  refine e_nil ?_
  refine e_ret ?_
  exact ⟨_, rfl, .tmp rfl⟩

set_option maxHeartbeats 400000 in
theorem sums_bada (a b : Nat) (ha : ¬ a < PP) (ha2 : a < 2 ^ 256) : Fn Tryd.prog [⟨0, arr .u64 16 (d16 PP), 42⟩] 3 #[fe a, fe b] (.bool true) := by
  refine fn1 (n := 55) Tryd.func3 rfl rfl (by simp) (argE [fe a, fe b] 0) (argE_ok _) ?_
  refine e_seq ?_
  refine e_plain ?_
  refine e_box 0 rfl rfl fun r1 => ?_
  refine e_box 1 rfl rfl fun r2 => ?_
  refine e_assign rfl rfl ?_
  refine e_nil ?_
  refine e_seq ?_
  refine e_plain ?_
  refine e_loadA (i := 0) und24 rfl siz24 rfl rfl (arr_size _ _ _) rfl ?_
  refine e_loadA (i := 1) und24 rfl siz24 rfl rfl (arr_size _ _ _) rfl ?_
  refine e_call rfl ent7 (add_bada a b ha ha2) rfl ?_
  refine e_move rfl rfl ?_
  refine e_extract rfl rfl rfl ?_
  refine e_extract rfl rfl rfl ?_
  refine e_alloc 2 zer24 rfl fun r3 => ?_
  refine e_storeA (i := 2) siz24 rfl rfl (arr_size _ _ _) arr_one rfl (arr_sz _ _ _ _ _) ?_
  refine e_assign rfl rfl ?_
  refine e_nil ?_
  refine e_seq ?_
  refine e_plain ?_
  refine e_loadA (i := 0) und24 rfl siz24 rfl rfl (arr_size _ _ _) rfl ?_
  refine e_loadA (i := 1) und24 rfl siz24 rfl rfl (arr_size _ _ _) rfl ?_
  refine e_call rfl ent8 (sub_bada a b ha ha2) rfl ?_
  refine e_move rfl rfl ?_
  refine e_extract rfl rfl rfl ?_
  refine e_extract rfl rfl rfl ?_
  refine e_alloc 3 zer24 rfl fun r4 => ?_
  refine e_storeA (i := 3) siz24 rfl rfl (arr_size _ _ _) arr_one rfl (arr_sz _ _ _ _ _) ?_
  refine e_assign rfl rfl ?_
  refine e_nil ?_
  refine e_seq ?_
  refine e_plain ?_
  refine e_loadA (i := 0) und24 rfl siz24 rfl rfl (arr_size _ _ _) rfl ?_
  refine e_loadA (i := 1) und24 rfl siz24 rfl rfl (arr_size _ _ _) rfl ?_
  refine e_call rfl ent9 (reck_bada 1 a b ha ha2) rfl ?_
  refine e_move rfl rfl ?_
  refine e_extract rfl rfl rfl ?_
  refine e_extract rfl rfl rfl ?_
  refine e_alloc 4 zer24 rfl fun r5 => ?_
  refine e_storeA (i := 4) siz24 rfl rfl (arr_size _ _ _) arr_one rfl (arr_sz _ _ _ _ _) ?_
  refine e_assign rfl rfl ?_
  refine e_nil ?_
  refine e_seq ?_
  refine e_plain ?_
  refine e_loadA (i := 0) und24 rfl siz24 rfl rfl (arr_size _ _ _) rfl ?_
  refine e_loadA (i := 1) und24 rfl siz24 rfl rfl (arr_size _ _ _) rfl ?_
  refine e_call rfl ent9 (reck_bada 2 a b ha ha2) rfl ?_
  refine e_move rfl rfl ?_
  refine e_extract rfl rfl rfl ?_
  refine e_extract rfl rfl rfl ?_
  refine e_alloc 5 zer24 rfl fun r6 => ?_
  refine e_storeA (i := 5) siz24 rfl rfl (arr_size _ _ _) arr_one rfl (arr_sz _ _ _ _ _) ?_
  refine e_assign rfl rfl ?_
  refine e_nil ?_
  refine e_seq ?_
  refine e_plain ?_
  refine e_loadA (i := 2) und24 rfl siz24 rfl rfl (arr_size _ _ _) rfl ?_
  refine e_loadA (i := 4) und24 rfl siz24 rfl rfl (arr_size _ _ _) rfl ?_
  refine e_eqA und24 und22 siz22 eqg24 rfl rfl rfl ?_
  refine e_as (congrArg Value.bool (allEq_iff.2 (fun _ _ => rfl))) ?_
  refine e_move rfl rfl ?_
  refine e_yes rfl rfl rfl ?_
  refine e_move rfl rfl ?_
  refine e_yes rfl rfl rfl ?_
  refine e_move rfl rfl ?_
  refine e_yes rfl rfl rfl ?_
  refine e_eq rfl rfl rfl ?_
  refine e_as (congrArg Value.bool (decide_eq_true rfl)) ?_
  refine e_pickT rfl rfl rfl rfl ?_
  refine e_move rfl rfl ?_
  refine e_yes rfl rfl rfl ?_
  refine e_loadA (i := 3) und24 rfl siz24 rfl rfl (arr_size _ _ _) rfl ?_
  refine e_yes rfl rfl rfl ?_
  refine e_loadA (i := 5) und24 rfl siz24 rfl rfl (arr_size _ _ _) rfl ?_
  refine e_yes rfl rfl rfl ?_
  refine e_eqA und24 und22 siz22 eqg24 rfl rfl rfl ?_
  refine e_as (congrArg Value.bool (allEq_iff.2 (fun _ _ => rfl))) ?_
  refine e_pickT rfl rfl rfl rfl ?_
  refine e_move rfl rfl ?_
  refine e_yes rfl rfl rfl ?_
  refine e_move rfl rfl ?_
  refine e_yes rfl rfl rfl ?_
  refine e_move rfl rfl ?_
  refine e_yes rfl rfl rfl ?_
  refine e_eq rfl rfl rfl ?_
  refine e_as (congrArg Value.bool (decide_eq_true rfl)) ?_
  refine e_pickT rfl rfl rfl rfl ?_
  refine e_assign rfl rfl ?_
  refine e_nil ?_
  refine e_ret ?_
  exact ⟨_, rfl, .tmp rfl⟩

set_option maxHeartbeats 400000 in
theorem sums_badb (a b : Nat) (ha : a < PP) (hb : ¬ b < PP) (hb2 : b < 2 ^ 256) : Fn Tryd.prog [⟨0, arr .u64 16 (d16 PP), 42⟩] 3 #[fe a, fe b] (.bool true) := by
  refine fn1 (n := 55) Tryd.func3 rfl rfl (by simp) (argE [fe a, fe b] 0) (argE_ok _) ?_
  refine e_seq ?_
  refine e_plain ?_
  refine e_box 0 rfl rfl fun r1 => ?_
  refine e_box 1 rfl rfl fun r2 => ?_
  refine e_assign rfl rfl ?_
  refine e_nil ?_
  refine e_seq ?_
  refine e_plain ?_
  refine e_loadA (i := 0) und24 rfl siz24 rfl rfl (arr_size _ _ _) rfl ?_
  refine e_loadA (i := 1) und24 rfl siz24 rfl rfl (arr_size _ _ _) rfl ?_
  refine e_call rfl ent7 (add_badb a b ha hb hb2) rfl ?_
  refine e_move rfl rfl ?_
  refine e_extract rfl rfl rfl ?_
  refine e_extract rfl rfl rfl ?_
  refine e_alloc 2 zer24 rfl fun r3 => ?_
  refine e_storeA (i := 2) siz24 rfl rfl (arr_size _ _ _) arr_one rfl (arr_sz _ _ _ _ _) ?_
  refine e_assign rfl rfl ?_
  refine e_nil ?_
  refine e_seq ?_
  refine e_plain ?_
  refine e_loadA (i := 0) und24 rfl siz24 rfl rfl (arr_size _ _ _) rfl ?_
  refine e_loadA (i := 1) und24 rfl siz24 rfl rfl (arr_size _ _ _) rfl ?_
  refine e_call rfl ent8 (sub_badb a b ha hb hb2) rfl ?_
  refine e_move rfl rfl ?_
  refine e_extract rfl rfl rfl ?_
  refine e_extract rfl rfl rfl ?_
  refine e_alloc 3 zer24 rfl fun r4 => ?_
  refine e_storeA (i := 3) siz24 rfl rfl (arr_size _ _ _) arr_one rfl (arr_sz _ _ _ _ _) ?_
  refine e_assign rfl rfl ?_
  refine e_nil ?_
  refine e_seq ?_
  refine e_plain ?_
  refine e_loadA (i := 0) und24 rfl siz24 rfl rfl (arr_size _ _ _) rfl ?_
  refine e_loadA (i := 1) und24 rfl siz24 rfl rfl (arr_size _ _ _) rfl ?_
  refine e_call rfl ent9 (reck_badb 1 a b ha hb hb2) rfl ?_
  refine e_move rfl rfl ?_
  refine e_extract rfl rfl rfl ?_
  refine e_extract rfl rfl rfl ?_
  refine e_alloc 4 zer24 rfl fun r5 => ?_
  refine e_storeA (i := 4) siz24 rfl rfl (arr_size _ _ _) arr_one rfl (arr_sz _ _ _ _ _) ?_
  refine e_assign rfl rfl ?_
  refine e_nil ?_
  refine e_seq ?_
  refine e_plain ?_
  refine e_loadA (i := 0) und24 rfl siz24 rfl rfl (arr_size _ _ _) rfl ?_
  refine e_loadA (i := 1) und24 rfl siz24 rfl rfl (arr_size _ _ _) rfl ?_
  refine e_call rfl ent9 (reck_badb 2 a b ha hb hb2) rfl ?_
  refine e_move rfl rfl ?_
  refine e_extract rfl rfl rfl ?_
  refine e_extract rfl rfl rfl ?_
  refine e_alloc 5 zer24 rfl fun r6 => ?_
  refine e_storeA (i := 5) siz24 rfl rfl (arr_size _ _ _) arr_one rfl (arr_sz _ _ _ _ _) ?_
  refine e_assign rfl rfl ?_
  refine e_nil ?_
  refine e_seq ?_
  refine e_plain ?_
  refine e_loadA (i := 2) und24 rfl siz24 rfl rfl (arr_size _ _ _) rfl ?_
  refine e_loadA (i := 4) und24 rfl siz24 rfl rfl (arr_size _ _ _) rfl ?_
  refine e_eqA und24 und22 siz22 eqg24 rfl rfl rfl ?_
  refine e_as (congrArg Value.bool (allEq_iff.2 (fun _ _ => rfl))) ?_
  refine e_move rfl rfl ?_
  refine e_yes rfl rfl rfl ?_
  refine e_move rfl rfl ?_
  refine e_yes rfl rfl rfl ?_
  refine e_move rfl rfl ?_
  refine e_yes rfl rfl rfl ?_
  refine e_eq rfl rfl rfl ?_
  refine e_as (congrArg Value.bool (decide_eq_true rfl)) ?_
  refine e_pickT rfl rfl rfl rfl ?_
  refine e_move rfl rfl ?_
  refine e_yes rfl rfl rfl ?_
  refine e_loadA (i := 3) und24 rfl siz24 rfl rfl (arr_size _ _ _) rfl ?_
  refine e_yes rfl rfl rfl ?_
  refine e_loadA (i := 5) und24 rfl siz24 rfl rfl (arr_size _ _ _) rfl ?_
  refine e_yes rfl rfl rfl ?_
  refine e_eqA und24 und22 siz22 eqg24 rfl rfl rfl ?_
  refine e_as (congrArg Value.bool (allEq_iff.2 (fun _ _ => rfl))) ?_
  refine e_pickT rfl rfl rfl rfl ?_
  refine e_move rfl rfl ?_
  refine e_yes rfl rfl rfl ?_
  refine e_move rfl rfl ?_
  refine e_yes rfl rfl rfl ?_
  refine e_move rfl rfl ?_
  refine e_yes rfl rfl rfl ?_
  refine e_eq rfl rfl rfl ?_
  refine e_as (congrArg Value.bool (decide_eq_true rfl)) ?_
  refine e_pickT rfl rfl rfl rfl ?_
  refine e_assign rfl rfl ?_
  refine e_nil ?_
  refine e_ret ?_
  exact ⟨_, rfl, .tmp rfl⟩

end Go.Proofs.YtkoigikldikmmaaDoor
