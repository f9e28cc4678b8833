/-
  Walks, written by a program of ours off the loaded functions.
-/
import Derived.Test.YtkoigikldikmmabW4
import Derived.Test.YtkoigikldikmmabPrime
namespace Go.Proofs.Ytkoigikldikmmab
open Go Go.RowKit


theorem ent6 : enters Try.prog 6 = true := by kernel_rfl
theorem ent7 : enters Try.prog 7 = true := by kernel_rfl
theorem ent8 : enters Try.prog 8 = true := by kernel_rfl
theorem sis23 : ((Try.prog.info? 23).map (·.size)).isSome = true := by kernel_rfl
theorem und4 : Try.prog.underlying 4 = some (.bool) := by kernel_rfl

variable {G : Mem}

set_option maxHeartbeats 400000 in
theorem invBack_zero (f g : Nat → Nat) (hf : ∀ j, j < 32 → f j < 256) (hg : ∀ j, j < 32 → g j < 256) (hx0 : vb f 32 % 2 ^ 255 % PP = 0) : Fn Try.prog G 3 #[.agg (arr .u8 32 f), .agg (arr .u8 32 g)] (.bool true) := by
  obtain ⟨x, hx⟩ : ∃ x, x = vb f 32 % 2 ^ 255 % PP := ⟨_, rfl⟩
  have hxP : x < PP := by rw [hx]; exact Nat.mod_lt _ (by decide)
  obtain ⟨y, hy⟩ : ∃ y, y = vb g 32 % 2 ^ 255 % PP := ⟨_, rfl⟩
  have hyP : y < PP := by rw [hy]; exact Nat.mod_lt _ (by decide)
  have hiP := Nat.mod_lt (x ^ EE) (show 0 < PP by decide)
  rw [← hx] at hx0
  refine fn1 (n := 79) Try.func3 rfl rfl (by simp) (argE [.agg (arr .u8 32 f), .agg (arr .u8 32 g)] 0) (argE_ok _) ?_
  refine e_seq ?_
  refine e_plain ?_
  refine e_box rfl rfl fun r1 => ?_
  refine e_box rfl rfl fun r2 => ?_
  refine e_assign rfl rfl ?_
  refine e_nil ?_
  refine e_seq ?_
  refine e_draw mixed (by kernel_rfl) ?_
  refine e_loadA (i := 0) und22 rfl siz22 rfl rfl (arr_size _ _ _) rfl ?_
  refine e_call rfl ent5 (from_fn f hf) rfl ?_
  refine e_as (congrArg fe hx.symm) ?_
  refine e_loadA (i := 1) und22 rfl siz22 rfl rfl (arr_size _ _ _) rfl ?_
  refine e_call rfl ent5 (from_fn g hg) rfl ?_
  refine e_as (congrArg fe hy.symm) ?_
  refine e_alloc zer25 rfl fun r3 => ?_
  refine e_alloc zer25 rfl fun r4 => ?_
  refine e_storeA (i := 2) siz25 rfl rfl (arr_size _ _ _) arr_one rfl (arr_sz _ _ _ _ _) ?_
  refine e_storeA (i := 3) siz25 rfl rfl (arr_size _ _ _) arr_one rfl (arr_sz _ _ _ _ _) ?_
  refine e_nil ?_
  refine e_seq ?_
  refine e_plain ?_
  refine e_loadA (i := 2) und25 rfl siz25 rfl rfl (arr_size _ _ _) rfl ?_
  refine e_call rfl ent6 (inv_ok x hxP) rfl ?_
  refine e_move rfl rfl ?_
  refine e_extract rfl rfl rfl ?_
  refine e_extract rfl rfl rfl ?_
  refine e_alloc zer25 rfl fun r5 => ?_
  refine e_storeA (i := 4) siz25 rfl rfl (arr_size _ _ _) arr_one rfl (arr_sz _ _ _ _ _) ?_
  refine e_assign rfl rfl ?_
  refine e_nil ?_
  refine e_seq ?_
  refine e_plain ?_
  refine e_loadA (i := 2) und25 rfl siz25 rfl rfl (arr_size _ _ _) rfl ?_
  refine e_loadA (i := 4) und25 rfl siz25 rfl rfl (arr_size _ _ _) rfl ?_
  refine e_call rfl ent7 (mul_ok x _ hxP hiP) rfl ?_
  refine e_move rfl rfl ?_
  refine e_extract rfl rfl rfl ?_
  refine e_extract rfl rfl rfl ?_
  refine e_alloc zer25 rfl fun r6 => ?_
  refine e_storeA (i := 5) siz25 rfl rfl (arr_size _ _ _) arr_one rfl (arr_sz _ _ _ _ _) ?_
  refine e_assign rfl rfl ?_
  refine e_nil ?_
  refine e_seq ?_
  refine e_plain ?_
  refine e_loadA (i := 2) und25 rfl siz25 rfl rfl (arr_size _ _ _) rfl ?_
  refine e_loadA (i := 3) und25 rfl siz25 rfl rfl (arr_size _ _ _) rfl ?_
  refine e_call rfl ent7 (mul_ok x y hxP hyP) rfl ?_
  refine e_move rfl rfl ?_
  refine e_extract rfl rfl rfl ?_
  refine e_extract rfl rfl rfl ?_
  refine e_alloc zer25 rfl fun r7 => ?_
  refine e_storeA (i := 6) siz25 rfl rfl (arr_size _ _ _) arr_one rfl (arr_sz _ _ _ _ _) ?_
  refine e_assign rfl rfl ?_
  refine e_nil ?_
  refine e_seq ?_
  refine e_seq ?_
  refine e_plain ?_
  refine e_loadA (i := 2) und25 rfl siz25 rfl rfl (arr_size _ _ _) rfl ?_
  refine e_build0 zer25 und25 sis23 rfl ?_
  refine e_eqA und25 und23 siz23 eqg25 rfl rfl rfl ?_
  refine e_as (congrArg Value.bool ((allEq_zero (Nat.lt_trans hxP (by decide))).trans (decide_eq_true hx0))) ?_
  refine e_nil ?_
  refine e_cond rfl ?_ ?_
  · intro hc0
    refine e_seq ?_
    refine e_plain ?_
    refine e_call rfl ent8 tells_fn rfl ?_
    refine e_move rfl rfl ?_
    refine e_yes rfl rfl rfl ?_
    refine e_move rfl rfl ?_
    refine e_yes rfl rfl rfl ?_
    refine e_eq rfl rfl rfl ?_
    refine e_as (congrArg Value.bool (decide_eq_true rfl)) ?_
    refine e_pickT rfl rfl rfl rfl ?_
    refine e_move rfl rfl ?_
    refine e_yes rfl rfl rfl ?_
    refine e_loadA (i := 4) und25 rfl siz25 rfl rfl (arr_size _ _ _) rfl ?_
    refine e_yes rfl rfl rfl ?_
    refine e_build0 zer25 und25 sis23 rfl ?_
    refine e_yes rfl rfl rfl ?_
    refine e_eqA und25 und23 siz23 eqg25 rfl rfl rfl ?_
    refine e_as (congrArg Value.bool ((allEq_zero (show x ^ EE % PP < 2 ^ 256 from Nat.lt_trans (Nat.mod_lt _ (by decide)) (by decide))).trans (decide_eq_true (by rw [hx0]; exact zero_pow_mod)))) ?_
    refine e_pickT rfl rfl rfl rfl ?_
    refine e_move rfl rfl ?_
    refine e_yes rfl rfl rfl ?_
    refine e_loadA (i := 6) und25 rfl siz25 rfl rfl (arr_size _ _ _) rfl ?_
    refine e_yes rfl rfl rfl ?_
    refine e_build0 zer25 und25 sis23 rfl ?_
    refine e_yes rfl rfl rfl ?_
    refine e_eqA und25 und23 siz23 eqg25 rfl rfl rfl ?_
    refine e_as (congrArg Value.bool ((allEq_zero (show x * y % PP < 2 ^ 256 from Nat.lt_trans (Nat.mod_lt _ (by decide)) (by decide))).trans (decide_eq_true (by rw [hx0, Nat.zero_mul]; rfl)))) ?_
    refine e_pickT rfl rfl rfl rfl ?_
    refine e_assign rfl rfl ?_
    refine e_nil ?_
    refine e_ret ?_
    exact ⟨_, rfl, .tmp rfl⟩
  · intro hc0
    cases hc0

set_option maxHeartbeats 400000 in
theorem invBack_nz (f g : Nat → Nat) (hf : ∀ j, j < 32 → f j < 256) (hg : ∀ j, j < 32 → g j < 256) (hx0 : ¬ vb f 32 % 2 ^ 255 % PP = 0) : Fn Try.prog G 3 #[.agg (arr .u8 32 f), .agg (arr .u8 32 g)] (.bool true) := by
  obtain ⟨x, hx⟩ : ∃ x, x = vb f 32 % 2 ^ 255 % PP := ⟨_, rfl⟩
  have hxP : x < PP := by rw [hx]; exact Nat.mod_lt _ (by decide)
  obtain ⟨y, hy⟩ : ∃ y, y = vb g 32 % 2 ^ 255 % PP := ⟨_, rfl⟩
  have hyP : y < PP := by rw [hy]; exact Nat.mod_lt _ (by decide)
  have hiP := Nat.mod_lt (x ^ EE) (show 0 < PP by decide)
  rw [← hx] at hx0
  refine fn1 (n := 79) Try.func3 rfl rfl (by simp) (argE [.agg (arr .u8 32 f), .agg (arr .u8 32 g)] 0) (argE_ok _) ?_
  refine e_seq ?_
  refine e_plain ?_
  refine e_box rfl rfl fun r1 => ?_
  refine e_box rfl rfl fun r2 => ?_
  refine e_assign rfl rfl ?_
  refine e_nil ?_
  refine e_seq ?_
  refine e_draw mixed (by kernel_rfl) ?_
  refine e_loadA (i := 0) und22 rfl siz22 rfl rfl (arr_size _ _ _) rfl ?_
  refine e_call rfl ent5 (from_fn f hf) rfl ?_
  refine e_as (congrArg fe hx.symm) ?_
  refine e_loadA (i := 1) und22 rfl siz22 rfl rfl (arr_size _ _ _) rfl ?_
  refine e_call rfl ent5 (from_fn g hg) rfl ?_
  refine e_as (congrArg fe hy.symm) ?_
  refine e_alloc zer25 rfl fun r3 => ?_
  refine e_alloc zer25 rfl fun r4 => ?_
  refine e_storeA (i := 2) siz25 rfl rfl (arr_size _ _ _) arr_one rfl (arr_sz _ _ _ _ _) ?_
  refine e_storeA (i := 3) siz25 rfl rfl (arr_size _ _ _) arr_one rfl (arr_sz _ _ _ _ _) ?_
  refine e_nil ?_
  refine e_seq ?_
  refine e_plain ?_
  refine e_loadA (i := 2) und25 rfl siz25 rfl rfl (arr_size _ _ _) rfl ?_
  refine e_call rfl ent6 (inv_ok x hxP) rfl ?_
  refine e_move rfl rfl ?_
  refine e_extract rfl rfl rfl ?_
  refine e_extract rfl rfl rfl ?_
  refine e_alloc zer25 rfl fun r5 => ?_
  refine e_storeA (i := 4) siz25 rfl rfl (arr_size _ _ _) arr_one rfl (arr_sz _ _ _ _ _) ?_
  refine e_assign rfl rfl ?_
  refine e_nil ?_
  refine e_seq ?_
  refine e_plain ?_
  refine e_loadA (i := 2) und25 rfl siz25 rfl rfl (arr_size _ _ _) rfl ?_
  refine e_loadA (i := 4) und25 rfl siz25 rfl rfl (arr_size _ _ _) rfl ?_
  refine e_call rfl ent7 (mul_ok x _ hxP hiP) rfl ?_
  refine e_move rfl rfl ?_
  refine e_extract rfl rfl rfl ?_
  refine e_extract rfl rfl rfl ?_
  refine e_alloc zer25 rfl fun r6 => ?_
  refine e_storeA (i := 5) siz25 rfl rfl (arr_size _ _ _) arr_one rfl (arr_sz _ _ _ _ _) ?_
  refine e_assign rfl rfl ?_
  refine e_nil ?_
  refine e_seq ?_
  refine e_plain ?_
  refine e_loadA (i := 2) und25 rfl siz25 rfl rfl (arr_size _ _ _) rfl ?_
  refine e_loadA (i := 3) und25 rfl siz25 rfl rfl (arr_size _ _ _) rfl ?_
  refine e_call rfl ent7 (mul_ok x y hxP hyP) rfl ?_
  refine e_move rfl rfl ?_
  refine e_extract rfl rfl rfl ?_
  refine e_extract rfl rfl rfl ?_
  refine e_alloc zer25 rfl fun r7 => ?_
  refine e_storeA (i := 6) siz25 rfl rfl (arr_size _ _ _) arr_one rfl (arr_sz _ _ _ _ _) ?_
  refine e_assign rfl rfl ?_
  refine e_nil ?_
  refine e_seq ?_
  refine e_seq ?_
  refine e_plain ?_
  refine e_loadA (i := 2) und25 rfl siz25 rfl rfl (arr_size _ _ _) rfl ?_
  refine e_build0 zer25 und25 sis23 rfl ?_
  refine e_eqA und25 und23 siz23 eqg25 rfl rfl rfl ?_
  refine e_as (congrArg Value.bool ((allEq_zero (Nat.lt_trans hxP (by decide))).trans (decide_eq_false hx0))) ?_
  refine e_nil ?_
  refine e_cond rfl ?_ ?_
  · intro hc0
    cases hc0
  · intro hc0
    refine e_skip ?_
    refine e_seq ?_
    refine e_draw mixed (by kernel_rfl) ?_
    refine e_call rfl ent8 tells_fn rfl ?_
    refine e_move rfl rfl ?_
    refine e_yes rfl rfl rfl ?_
    refine e_move rfl rfl ?_
    refine e_yes rfl rfl rfl ?_
    refine e_eq rfl rfl rfl ?_
    refine e_as (congrArg Value.bool (decide_eq_true rfl)) ?_
    refine e_pickT rfl rfl rfl rfl ?_
    refine e_move rfl rfl ?_
    refine e_yes rfl rfl rfl ?_
    refine e_move rfl rfl ?_
    refine e_yes rfl rfl rfl ?_
    refine e_eq rfl rfl rfl ?_
    refine e_as (congrArg Value.bool (decide_eq_true rfl)) ?_
    refine e_pickT rfl rfl rfl rfl ?_
    refine e_move rfl rfl ?_
    refine e_yes rfl rfl rfl ?_
    refine e_move rfl rfl ?_
    refine e_yes rfl rfl rfl ?_
    refine e_eq rfl rfl rfl ?_
    refine e_as (congrArg Value.bool (decide_eq_true rfl)) ?_
    refine e_pickT rfl rfl rfl rfl ?_
    refine e_move rfl rfl ?_
    refine e_yes rfl rfl rfl ?_
    refine e_loadA (i := 5) und25 rfl siz25 rfl rfl (arr_size _ _ _) rfl ?_
    refine e_yes rfl rfl rfl ?_
    refine e_build (arr .u64 4 (upd (fun _ => 0) 0 1)) zer25 und25 siz23 rfl rfl rfl ?_
    refine e_as (fe_one 1 (by decide)) ?_
    refine e_yes rfl rfl rfl ?_
    refine e_eqA und25 und23 siz23 eqg25 rfl rfl rfl ?_
    refine e_as (congrArg Value.bool (one_eq hx0 hxP)) ?_
    refine e_pickT rfl rfl rfl rfl ?_
    refine e_move rfl rfl ?_
    refine e_yes rfl rfl rfl ?_
    refine e_loadA (i := 6) und25 rfl siz25 rfl rfl (arr_size _ _ _) rfl ?_
    refine e_yes rfl rfl rfl ?_
    refine e_build0 zer25 und25 sis23 rfl ?_
    refine e_yes rfl rfl rfl ?_
    refine e_eqA und25 und23 siz23 eqg25 rfl rfl rfl ?_
    refine e_yes rfl rfl rfl ?_
    refine e_loadA (i := 3) und25 rfl siz25 rfl rfl (arr_size _ _ _) rfl ?_
    refine e_yes rfl rfl rfl ?_
    refine e_build0 zer25 und25 sis23 rfl ?_
    refine e_yes rfl rfl rfl ?_
    refine e_eqA und25 und23 siz23 eqg25 rfl rfl rfl ?_
    refine e_yes rfl rfl rfl ?_
    refine e_eqB und4 rfl rfl rfl ?_
    refine e_as (congrArg Value.bool (zero_eq hx0 hxP hyP)) ?_
    refine e_pickT rfl rfl rfl rfl ?_
    refine e_assign rfl rfl ?_
    refine e_nil ?_
    refine e_ret ?_
    exact ⟨_, rfl, .tmp rfl⟩

end Go.Proofs.Ytkoigikldikmmab
