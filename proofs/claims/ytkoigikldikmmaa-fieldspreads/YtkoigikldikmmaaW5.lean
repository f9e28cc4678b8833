/-
  Walks, written by a program of ours off the loaded functions.
-/
import Derived.Test.YtkoigikldikmmaaW4
import Derived.Test.YtkoigikldikmmaaRing
namespace Go.Proofs.Ytkoigikldikmmaa
open Go Go.RowKit


theorem ent5 : enters Try.prog 5 = true := by kernel_rfl
theorem ent6 : enters Try.prog 6 = true := by kernel_rfl
theorem ent7 : enters Try.prog 7 = true := by kernel_rfl
theorem ent9 : enters Try.prog 9 = true := by kernel_rfl
theorem ent10 : enters Try.prog 10 = true := by kernel_rfl
theorem siz22 : (Try.prog.info? 22).map (·.size) = some 32 := by kernel_rfl

variable {G : Mem}

set_option maxHeartbeats 8000000 in
theorem fieldSpreads_fn (f g h : Nat → Nat) (hf : ∀ j, j < 32 → f j < 256) (hg : ∀ j, j < 32 → g j < 256) (hh : ∀ j, j < 32 → h j < 256) : Fn Try.prog G 4 #[.agg (arr .u8 32 f), .agg (arr .u8 32 g), .agg (arr .u8 32 h)] (.bool true) := by
  obtain ⟨x, hx⟩ : ∃ x, x = vb f 32 % 2 ^ 255 % PP := ⟨_, rfl⟩
  have hxP : x < PP := by rw [hx]; exact Nat.mod_lt _ (by decide)
  obtain ⟨y, hy⟩ : ∃ y, y = vb g 32 % 2 ^ 255 % PP := ⟨_, rfl⟩
  have hyP : y < PP := by rw [hy]; exact Nat.mod_lt _ (by decide)
  obtain ⟨z, hz⟩ : ∃ z, z = vb h 32 % 2 ^ 255 % PP := ⟨_, rfl⟩
  have hzP : z < PP := by rw [hz]; exact Nat.mod_lt _ (by decide)
  refine fn1 (n := 111) Try.func4 rfl rfl (by simp) (argE [.agg (arr .u8 32 f), .agg (arr .u8 32 g), .agg (arr .u8 32 h)] 0) (argE_ok _) ?_
  refine e_seq ?_
  refine e_plain ?_
  refine e_box 0 rfl rfl fun r1 => ?_
  refine e_box 1 rfl rfl fun r2 => ?_
  refine e_box 2 rfl rfl fun r3 => ?_
  refine e_assign rfl rfl ?_
  refine e_nil ?_
  refine e_seq ?_
  refine e_draw mixed (by kernel_rfl) ?_
  refine e_loadA (i := 0) und22 rfl siz22 rfl rfl (arr_size _ _ _) rfl ?_
  refine e_call rfl ent5 (from_fn f hf) rfl ?_
  refine e_as (congrArg fe hx.symm) ?_
  refine e_loadA (i := 1) und22 rfl siz22 rfl rfl (arr_size _ _ _) rfl ?_
  refine e_call rfl ent5 (from_fn g hg) rfl ?_
  refine e_as (congrArg fe hy.symm) ?_
  refine e_loadA (i := 2) und22 rfl siz22 rfl rfl (arr_size _ _ _) rfl ?_
  refine e_call rfl ent5 (from_fn h hh) rfl ?_
  refine e_as (congrArg fe hz.symm) ?_
  refine e_alloc 3 zer25 rfl fun r4 => ?_
  refine e_alloc 4 zer25 rfl fun r5 => ?_
  refine e_alloc 5 zer25 rfl fun r6 => ?_
  refine e_storeA (i := 3) siz25 rfl rfl (arr_size _ _ _) arr_one rfl (arr_sz _ _ _ _ _) ?_
  refine e_storeA (i := 4) siz25 rfl rfl (arr_size _ _ _) arr_one rfl (arr_sz _ _ _ _ _) ?_
  refine e_storeA (i := 5) siz25 rfl rfl (arr_size _ _ _) arr_one rfl (arr_sz _ _ _ _ _) ?_
  refine e_nil ?_
  refine e_seq ?_
  refine e_plain ?_
  refine e_loadA (i := 3) und25 rfl siz25 rfl rfl (arr_size _ _ _) rfl ?_
  refine e_loadA (i := 4) und25 rfl siz25 rfl rfl (arr_size _ _ _) rfl ?_
  refine e_call rfl ent8 (add_ok x y hxP hyP) rfl ?_
  refine e_move rfl rfl ?_
  refine e_extract rfl rfl rfl ?_
  refine e_extract rfl rfl rfl ?_
  refine e_alloc 6 zer25 rfl fun r7 => ?_
  refine e_storeA (i := 6) siz25 rfl rfl (arr_size _ _ _) arr_one rfl (arr_sz _ _ _ _ _) ?_
  refine e_assign rfl rfl ?_
  refine e_nil ?_
  refine e_seq ?_
  refine e_plain ?_
  refine e_loadA (i := 6) und25 rfl siz25 rfl rfl (arr_size _ _ _) rfl ?_
  refine e_loadA (i := 5) und25 rfl siz25 rfl rfl (arr_size _ _ _) rfl ?_
  refine e_call rfl ent9 (mul_ok _ z (Nat.mod_lt _ (by decide)) hzP) rfl ?_
  refine e_move rfl rfl ?_
  refine e_extract rfl rfl rfl ?_
  refine e_extract rfl rfl rfl ?_
  refine e_alloc 7 zer25 rfl fun r8 => ?_
  refine e_storeA (i := 7) siz25 rfl rfl (arr_size _ _ _) arr_one rfl (arr_sz _ _ _ _ _) ?_
  refine e_assign rfl rfl ?_
  refine e_nil ?_
  refine e_seq ?_
  refine e_plain ?_
  refine e_loadA (i := 3) und25 rfl siz25 rfl rfl (arr_size _ _ _) rfl ?_
  refine e_loadA (i := 5) und25 rfl siz25 rfl rfl (arr_size _ _ _) rfl ?_
  refine e_call rfl ent9 (mul_ok x z hxP hzP) rfl ?_
  refine e_move rfl rfl ?_
  refine e_extract rfl rfl rfl ?_
  refine e_extract rfl rfl rfl ?_
  refine e_alloc 8 zer25 rfl fun r9 => ?_
  refine e_storeA (i := 8) siz25 rfl rfl (arr_size _ _ _) arr_one rfl (arr_sz _ _ _ _ _) ?_
  refine e_assign rfl rfl ?_
  refine e_nil ?_
  refine e_seq ?_
  refine e_plain ?_
  refine e_loadA (i := 4) und25 rfl siz25 rfl rfl (arr_size _ _ _) rfl ?_
  refine e_loadA (i := 5) und25 rfl siz25 rfl rfl (arr_size _ _ _) rfl ?_
  refine e_call rfl ent9 (mul_ok y z hyP hzP) rfl ?_
  refine e_move rfl rfl ?_
  refine e_extract rfl rfl rfl ?_
  refine e_extract rfl rfl rfl ?_
  refine e_alloc 9 zer25 rfl fun r10 => ?_
  refine e_storeA (i := 9) siz25 rfl rfl (arr_size _ _ _) arr_one rfl (arr_sz _ _ _ _ _) ?_
  refine e_assign rfl rfl ?_
  refine e_nil ?_
  refine e_seq ?_
  refine e_plain ?_
  refine e_loadA (i := 8) und25 rfl siz25 rfl rfl (arr_size _ _ _) rfl ?_
  refine e_loadA (i := 9) und25 rfl siz25 rfl rfl (arr_size _ _ _) rfl ?_
  refine e_call rfl ent8 (add_ok _ _ (Nat.mod_lt _ (by decide)) (Nat.mod_lt _ (by decide))) rfl ?_
  refine e_move rfl rfl ?_
  refine e_extract rfl rfl rfl ?_
  refine e_extract rfl rfl rfl ?_
  refine e_alloc 10 zer25 rfl fun r11 => ?_
  refine e_storeA (i := 10) siz25 rfl rfl (arr_size _ _ _) arr_one rfl (arr_sz _ _ _ _ _) ?_
  refine e_assign rfl rfl ?_
  refine e_nil ?_
  refine e_seq ?_
  refine e_plain ?_
  refine e_loadA (i := 3) und25 rfl siz25 rfl rfl (arr_size _ _ _) rfl ?_
  refine e_loadA (i := 4) und25 rfl siz25 rfl rfl (arr_size _ _ _) rfl ?_
  refine e_call rfl ent10 (sub_ok x y hxP hyP) rfl ?_
  refine e_move rfl rfl ?_
  refine e_extract rfl rfl rfl ?_
  refine e_extract rfl rfl rfl ?_
  refine e_alloc 11 zer25 rfl fun r12 => ?_
  refine e_storeA (i := 11) siz25 rfl rfl (arr_size _ _ _) arr_one rfl (arr_sz _ _ _ _ _) ?_
  refine e_assign rfl rfl ?_
  refine e_nil ?_
  refine e_seq ?_
  refine e_plain ?_
  refine e_loadA (i := 11) und25 rfl siz25 rfl rfl (arr_size _ _ _) rfl ?_
  refine e_loadA (i := 4) und25 rfl siz25 rfl rfl (arr_size _ _ _) rfl ?_
  refine e_call rfl ent8 (add_ok _ y (Nat.mod_lt _ (by decide)) hyP) rfl ?_
  refine e_move rfl rfl ?_
  refine e_extract rfl rfl rfl ?_
  refine e_extract rfl rfl rfl ?_
  refine e_alloc 12 zer25 rfl fun r13 => ?_
  refine e_storeA (i := 12) siz25 rfl rfl (arr_size _ _ _) arr_one rfl (arr_sz _ _ _ _ _) ?_
  refine e_assign rfl rfl ?_
  refine e_nil ?_
  refine e_seq ?_
  refine e_plain ?_
  refine e_call rfl ent7 tells_fn rfl ?_
  refine e_move rfl rfl ?_
  refine e_yes rfl rfl rfl ?_
  refine e_move rfl rfl ?_
  refine e_yes rfl rfl rfl ?_
  refine e_eq rfl rfl rfl ?_
  refine e_as (congrArg Value.bool (decide_eq_true rfl)) ?_
  refine e_pickT rfl rfl rfl rfl ?_
  refine e_move rfl rfl ?_
  refine e_yes rfl rfl rfl ?_
  refine e_move rfl rfl ?_
  refine e_yes rfl rfl rfl ?_
  refine e_eq rfl rfl rfl ?_
  refine e_as (congrArg Value.bool (decide_eq_true rfl)) ?_
  refine e_pickT rfl rfl rfl rfl ?_
  refine e_move rfl rfl ?_
  refine e_yes rfl rfl rfl ?_
  refine e_move rfl rfl ?_
  refine e_yes rfl rfl rfl ?_
  refine e_eq rfl rfl rfl ?_
  refine e_as (congrArg Value.bool (decide_eq_true rfl)) ?_
  refine e_pickT rfl rfl rfl rfl ?_
  refine e_move rfl rfl ?_
  refine e_yes rfl rfl rfl ?_
  refine e_move rfl rfl ?_
  refine e_yes rfl rfl rfl ?_
  refine e_eq rfl rfl rfl ?_
  refine e_as (congrArg Value.bool (decide_eq_true rfl)) ?_
  refine e_pickT rfl rfl rfl rfl ?_
  refine e_move rfl rfl ?_
  refine e_yes rfl rfl rfl ?_
  refine e_move rfl rfl ?_
  refine e_yes rfl rfl rfl ?_
  refine e_eq rfl rfl rfl ?_
  refine e_as (congrArg Value.bool (decide_eq_true rfl)) ?_
  refine e_pickT rfl rfl rfl rfl ?_
  refine e_move rfl rfl ?_
  refine e_yes rfl rfl rfl ?_
  refine e_move rfl rfl ?_
  refine e_yes rfl rfl rfl ?_
  refine e_eq rfl rfl rfl ?_
  refine e_as (congrArg Value.bool (decide_eq_true rfl)) ?_
  refine e_pickT rfl rfl rfl rfl ?_
  refine e_move rfl rfl ?_
  refine e_yes rfl rfl rfl ?_
  refine e_move rfl rfl ?_
  refine e_yes rfl rfl rfl ?_
  refine e_eq rfl rfl rfl ?_
  refine e_as (congrArg Value.bool (decide_eq_true rfl)) ?_
  refine e_pickT rfl rfl rfl rfl ?_
  refine e_move rfl rfl ?_
  refine e_yes rfl rfl rfl ?_
  refine e_loadA (i := 7) und25 rfl siz25 rfl rfl (arr_size _ _ _) rfl ?_
  refine e_yes rfl rfl rfl ?_
  refine e_loadA (i := 10) und25 rfl siz25 rfl rfl (arr_size _ _ _) rfl ?_
  refine e_yes rfl rfl rfl ?_
  refine e_eqA und25 und23 siz23 eqg25 rfl rfl rfl ?_
  refine e_as (congrArg Value.bool (eq_words (spread_eq x y z))) ?_
  refine e_pickT rfl rfl rfl rfl ?_
  refine e_move rfl rfl ?_
  refine e_yes rfl rfl rfl ?_
  refine e_loadA (i := 12) und25 rfl siz25 rfl rfl (arr_size _ _ _) rfl ?_
  refine e_yes rfl rfl rfl ?_
  refine e_loadA (i := 3) und25 rfl siz25 rfl rfl (arr_size _ _ _) rfl ?_
  refine e_yes rfl rfl rfl ?_
  refine e_eqA und25 und23 siz23 eqg25 rfl rfl rfl ?_
  refine e_as (congrArg Value.bool (eq_words (back_eq x y hxP hyP))) ?_
  refine e_pickT rfl rfl rfl rfl ?_
  refine e_assign rfl rfl ?_
  refine e_nil ?_
  refine e_ret ?_
  exact ⟨_, rfl, .tmp rfl⟩

set_option maxHeartbeats 400000 in
theorem three_add (ra rb rc x y z : Nat) (hx : x < PP) (hy : y < PP) (hz : z < PP) : Fn Try.prog [⟨ra, arr .u64 4 (wd x), 25⟩, ⟨rb, arr .u64 4 (wd y), 25⟩, ⟨rc, arr .u64 4 (wd z), 25⟩] 6 #[.func (.func 8) #[] #[], ptr ra, ptr rb, ptr rc] (.bool true) := by
  refine fn1 (n := 79) Try.func6 rfl rfl (by simp) (argE [.func (.func 8) #[] #[], ptr ra, ptr rb, ptr rc] 0) (argE_ok _) ?_
  refine e_seq ?_
  refine e_plain ?_
  refine e_assign rfl rfl ?_
  refine e_nil ?_
  refine e_seq ?_
  refine e_plain ?_
  refine e_move rfl rfl ?_
  refine e_loadAg (i := 0) und25 rfl siz25 rfl rfl (arr_size _ _ _) rfl ?_
  refine e_loadAg (i := 1) und25 rfl siz25 rfl rfl (arr_size _ _ _) rfl ?_
  refine e_callV [] rfl rfl ent8 trivial (add_ok x y hx hy) rfl ?_
  refine e_move rfl rfl ?_
  refine e_extract rfl rfl rfl ?_
  refine e_extract rfl rfl rfl ?_
  refine e_alloc 0 zer25 rfl fun r1 => ?_
  refine e_storeA (i := 0) siz25 rfl rfl (arr_size _ _ _) arr_one rfl (arr_sz _ _ _ _ _) ?_
  refine e_assign rfl rfl ?_
  refine e_nil ?_
  refine e_seq ?_
  refine e_plain ?_
  refine e_move rfl rfl ?_
  refine e_loadA (i := 0) und25 rfl siz25 rfl rfl (arr_size _ _ _) rfl ?_
  refine e_loadAg (i := 2) und25 rfl siz25 rfl rfl (arr_size _ _ _) rfl ?_
  refine e_callV [] rfl rfl ent8 trivial (add_ok _ z (Nat.mod_lt _ (by decide)) hz) rfl ?_
  refine e_move rfl rfl ?_
  refine e_extract rfl rfl rfl ?_
  refine e_extract rfl rfl rfl ?_
  refine e_alloc 1 zer25 rfl fun r2 => ?_
  refine e_storeA (i := 1) siz25 rfl rfl (arr_size _ _ _) arr_one rfl (arr_sz _ _ _ _ _) ?_
  refine e_assign rfl rfl ?_
  refine e_nil ?_
  refine e_seq ?_
  refine e_plain ?_
  refine e_move rfl rfl ?_
  refine e_loadAg (i := 1) und25 rfl siz25 rfl rfl (arr_size _ _ _) rfl ?_
  refine e_loadAg (i := 2) und25 rfl siz25 rfl rfl (arr_size _ _ _) rfl ?_
  refine e_callV [] rfl rfl ent8 trivial (add_ok y z hy hz) rfl ?_
  refine e_move rfl rfl ?_
  refine e_extract rfl rfl rfl ?_
  refine e_extract rfl rfl rfl ?_
  refine e_alloc 2 zer25 rfl fun r3 => ?_
  refine e_storeA (i := 2) siz25 rfl rfl (arr_size _ _ _) arr_one rfl (arr_sz _ _ _ _ _) ?_
  refine e_assign rfl rfl ?_
  refine e_nil ?_
  refine e_seq ?_
  refine e_plain ?_
  refine e_move rfl rfl ?_
  refine e_loadAg (i := 0) und25 rfl siz25 rfl rfl (arr_size _ _ _) rfl ?_
  refine e_loadA (i := 2) und25 rfl siz25 rfl rfl (arr_size _ _ _) rfl ?_
  refine e_callV [] rfl rfl ent8 trivial (add_ok x _ hx (Nat.mod_lt _ (by decide))) rfl ?_
  refine e_move rfl rfl ?_
  refine e_extract rfl rfl rfl ?_
  refine e_extract rfl rfl rfl ?_
  refine e_alloc 3 zer25 rfl fun r4 => ?_
  refine e_storeA (i := 3) siz25 rfl rfl (arr_size _ _ _) arr_one rfl (arr_sz _ _ _ _ _) ?_
  refine e_assign rfl rfl ?_
  refine e_nil ?_
  refine e_seq ?_
  refine e_plain ?_
  refine e_move rfl rfl ?_
  refine e_loadAg (i := 1) und25 rfl siz25 rfl rfl (arr_size _ _ _) rfl ?_
  refine e_loadAg (i := 0) und25 rfl siz25 rfl rfl (arr_size _ _ _) rfl ?_
  refine e_callV [] rfl rfl ent8 trivial (add_ok y x hy hx) rfl ?_
  refine e_move rfl rfl ?_
  refine e_extract rfl rfl rfl ?_
  refine e_extract rfl rfl rfl ?_
  refine e_alloc 4 zer25 rfl fun r5 => ?_
  refine e_storeA (i := 4) siz25 rfl rfl (arr_size _ _ _) arr_one rfl (arr_sz _ _ _ _ _) ?_
  refine e_assign rfl rfl ?_
  refine e_nil ?_
  refine e_seq ?_
  refine e_plain ?_
  refine e_move rfl rfl ?_
  refine e_eq rfl rfl rfl ?_
  refine e_as (congrArg Value.bool (decide_eq_true rfl)) ?_
  refine e_move rfl rfl ?_
  refine e_yes rfl rfl rfl ?_
  refine e_move rfl rfl ?_
  refine e_yes rfl rfl rfl ?_
  refine e_eq rfl rfl rfl ?_
  refine e_as (congrArg Value.bool (decide_eq_true rfl)) ?_
  refine e_pickT rfl rfl rfl rfl ?_
  refine e_move rfl rfl ?_
  refine e_yes rfl rfl rfl ?_
  refine e_move rfl rfl ?_
  refine e_yes rfl rfl rfl ?_
  refine e_eq rfl rfl rfl ?_
  refine e_as (congrArg Value.bool (decide_eq_true rfl)) ?_
  refine e_pickT rfl rfl rfl rfl ?_
  refine e_move rfl rfl ?_
  refine e_yes rfl rfl rfl ?_
  refine e_move rfl rfl ?_
  refine e_yes rfl rfl rfl ?_
  refine e_eq rfl rfl rfl ?_
  refine e_as (congrArg Value.bool (decide_eq_true rfl)) ?_
  refine e_pickT rfl rfl rfl rfl ?_
  refine e_move rfl rfl ?_
  refine e_yes rfl rfl rfl ?_
  refine e_move rfl rfl ?_
  refine e_yes rfl rfl rfl ?_
  refine e_eq rfl rfl rfl ?_
  refine e_as (congrArg Value.bool (decide_eq_true rfl)) ?_
  refine e_pickT rfl rfl rfl rfl ?_
  refine e_move rfl rfl ?_
  refine e_yes rfl rfl rfl ?_
  refine e_loadA (i := 1) und25 rfl siz25 rfl rfl (arr_size _ _ _) rfl ?_
  refine e_yes rfl rfl rfl ?_
  refine e_loadA (i := 3) und25 rfl siz25 rfl rfl (arr_size _ _ _) rfl ?_
  refine e_yes rfl rfl rfl ?_
  refine e_eqA und25 und23 siz23 eqg25 rfl rfl rfl ?_
  refine e_as (congrArg Value.bool (eq_words (add_assoc_eq x y z))) ?_
  refine e_pickT rfl rfl rfl rfl ?_
  refine e_move rfl rfl ?_
  refine e_yes rfl rfl rfl ?_
  refine e_loadA (i := 0) und25 rfl siz25 rfl rfl (arr_size _ _ _) rfl ?_
  refine e_yes rfl rfl rfl ?_
  refine e_loadA (i := 4) und25 rfl siz25 rfl rfl (arr_size _ _ _) rfl ?_
  refine e_yes rfl rfl rfl ?_
  refine e_eqA und25 und23 siz23 eqg25 rfl rfl rfl ?_
  refine e_as (congrArg Value.bool (eq_words (add_comm_eq x y))) ?_
  refine e_pickT rfl rfl rfl rfl ?_
  refine e_assign rfl rfl ?_
  refine e_nil ?_
  refine e_ret ?_
  exact ⟨_, rfl, .tmp rfl⟩

set_option maxHeartbeats 400000 in
theorem three_mul (ra rb rc x y z : Nat) (hx : x < PP) (hy : y < PP) (hz : z < PP) : Fn Try.prog [⟨ra, arr .u64 4 (wd x), 25⟩, ⟨rb, arr .u64 4 (wd y), 25⟩, ⟨rc, arr .u64 4 (wd z), 25⟩] 6 #[.func (.func 9) #[] #[], ptr ra, ptr rb, ptr rc] (.bool true) := by
  refine fn1 (n := 79) Try.func6 rfl rfl (by simp) (argE [.func (.func 9) #[] #[], ptr ra, ptr rb, ptr rc] 0) (argE_ok _) ?_
  refine e_seq ?_
  refine e_plain ?_
  refine e_assign rfl rfl ?_
  refine e_nil ?_
  refine e_seq ?_
  refine e_plain ?_
  refine e_move rfl rfl ?_
  refine e_loadAg (i := 0) und25 rfl siz25 rfl rfl (arr_size _ _ _) rfl ?_
  refine e_loadAg (i := 1) und25 rfl siz25 rfl rfl (arr_size _ _ _) rfl ?_
  refine e_callV [] rfl rfl ent9 trivial (mul_ok x y hx hy) rfl ?_
  refine e_move rfl rfl ?_
  refine e_extract rfl rfl rfl ?_
  refine e_extract rfl rfl rfl ?_
  refine e_alloc 0 zer25 rfl fun r1 => ?_
  refine e_storeA (i := 0) siz25 rfl rfl (arr_size _ _ _) arr_one rfl (arr_sz _ _ _ _ _) ?_
  refine e_assign rfl rfl ?_
  refine e_nil ?_
  refine e_seq ?_
  refine e_plain ?_
  refine e_move rfl rfl ?_
  refine e_loadA (i := 0) und25 rfl siz25 rfl rfl (arr_size _ _ _) rfl ?_
  refine e_loadAg (i := 2) und25 rfl siz25 rfl rfl (arr_size _ _ _) rfl ?_
  refine e_callV [] rfl rfl ent9 trivial (mul_ok _ z (Nat.mod_lt _ (by decide)) hz) rfl ?_
  refine e_move rfl rfl ?_
  refine e_extract rfl rfl rfl ?_
  refine e_extract rfl rfl rfl ?_
  refine e_alloc 1 zer25 rfl fun r2 => ?_
  refine e_storeA (i := 1) siz25 rfl rfl (arr_size _ _ _) arr_one rfl (arr_sz _ _ _ _ _) ?_
  refine e_assign rfl rfl ?_
  refine e_nil ?_
  refine e_seq ?_
  refine e_plain ?_
  refine e_move rfl rfl ?_
  refine e_loadAg (i := 1) und25 rfl siz25 rfl rfl (arr_size _ _ _) rfl ?_
  refine e_loadAg (i := 2) und25 rfl siz25 rfl rfl (arr_size _ _ _) rfl ?_
  refine e_callV [] rfl rfl ent9 trivial (mul_ok y z hy hz) rfl ?_
  refine e_move rfl rfl ?_
  refine e_extract rfl rfl rfl ?_
  refine e_extract rfl rfl rfl ?_
  refine e_alloc 2 zer25 rfl fun r3 => ?_
  refine e_storeA (i := 2) siz25 rfl rfl (arr_size _ _ _) arr_one rfl (arr_sz _ _ _ _ _) ?_
  refine e_assign rfl rfl ?_
  refine e_nil ?_
  refine e_seq ?_
  refine e_plain ?_
  refine e_move rfl rfl ?_
  refine e_loadAg (i := 0) und25 rfl siz25 rfl rfl (arr_size _ _ _) rfl ?_
  refine e_loadA (i := 2) und25 rfl siz25 rfl rfl (arr_size _ _ _) rfl ?_
  refine e_callV [] rfl rfl ent9 trivial (mul_ok x _ hx (Nat.mod_lt _ (by decide))) rfl ?_
  refine e_move rfl rfl ?_
  refine e_extract rfl rfl rfl ?_
  refine e_extract rfl rfl rfl ?_
  refine e_alloc 3 zer25 rfl fun r4 => ?_
  refine e_storeA (i := 3) siz25 rfl rfl (arr_size _ _ _) arr_one rfl (arr_sz _ _ _ _ _) ?_
  refine e_assign rfl rfl ?_
  refine e_nil ?_
  refine e_seq ?_
  refine e_plain ?_
  refine e_move rfl rfl ?_
  refine e_loadAg (i := 1) und25 rfl siz25 rfl rfl (arr_size _ _ _) rfl ?_
  refine e_loadAg (i := 0) und25 rfl siz25 rfl rfl (arr_size _ _ _) rfl ?_
  refine e_callV [] rfl rfl ent9 trivial (mul_ok y x hy hx) rfl ?_
  refine e_move rfl rfl ?_
  refine e_extract rfl rfl rfl ?_
  refine e_extract rfl rfl rfl ?_
  refine e_alloc 4 zer25 rfl fun r5 => ?_
  refine e_storeA (i := 4) siz25 rfl rfl (arr_size _ _ _) arr_one rfl (arr_sz _ _ _ _ _) ?_
  refine e_assign rfl rfl ?_
  refine e_nil ?_
  refine e_seq ?_
  refine e_plain ?_
  refine e_move rfl rfl ?_
  refine e_eq rfl rfl rfl ?_
  refine e_as (congrArg Value.bool (decide_eq_true rfl)) ?_
  refine e_move rfl rfl ?_
  refine e_yes rfl rfl rfl ?_
  refine e_move rfl rfl ?_
  refine e_yes rfl rfl rfl ?_
  refine e_eq rfl rfl rfl ?_
  refine e_as (congrArg Value.bool (decide_eq_true rfl)) ?_
  refine e_pickT rfl rfl rfl rfl ?_
  refine e_move rfl rfl ?_
  refine e_yes rfl rfl rfl ?_
  refine e_move rfl rfl ?_
  refine e_yes rfl rfl rfl ?_
  refine e_eq rfl rfl rfl ?_
  refine e_as (congrArg Value.bool (decide_eq_true rfl)) ?_
  refine e_pickT rfl rfl rfl rfl ?_
  refine e_move rfl rfl ?_
  refine e_yes rfl rfl rfl ?_
  refine e_move rfl rfl ?_
  refine e_yes rfl rfl rfl ?_
  refine e_eq rfl rfl rfl ?_
  refine e_as (congrArg Value.bool (decide_eq_true rfl)) ?_
  refine e_pickT rfl rfl rfl rfl ?_
  refine e_move rfl rfl ?_
  refine e_yes rfl rfl rfl ?_
  refine e_move rfl rfl ?_
  refine e_yes rfl rfl rfl ?_
  refine e_eq rfl rfl rfl ?_
  refine e_as (congrArg Value.bool (decide_eq_true rfl)) ?_
  refine e_pickT rfl rfl rfl rfl ?_
  refine e_move rfl rfl ?_
  refine e_yes rfl rfl rfl ?_
  refine e_loadA (i := 1) und25 rfl siz25 rfl rfl (arr_size _ _ _) rfl ?_
  refine e_yes rfl rfl rfl ?_
  refine e_loadA (i := 3) und25 rfl siz25 rfl rfl (arr_size _ _ _) rfl ?_
  refine e_yes rfl rfl rfl ?_
  refine e_eqA und25 und23 siz23 eqg25 rfl rfl rfl ?_
  refine e_as (congrArg Value.bool (eq_words (mul_assoc_eq x y z))) ?_
  refine e_pickT rfl rfl rfl rfl ?_
  refine e_move rfl rfl ?_
  refine e_yes rfl rfl rfl ?_
  refine e_loadA (i := 0) und25 rfl siz25 rfl rfl (arr_size _ _ _) rfl ?_
  refine e_yes rfl rfl rfl ?_
  refine e_loadA (i := 4) und25 rfl siz25 rfl rfl (arr_size _ _ _) rfl ?_
  refine e_yes rfl rfl rfl ?_
  refine e_eqA und25 und23 siz23 eqg25 rfl rfl rfl ?_
  refine e_as (congrArg Value.bool (eq_words (mul_comm_eq x y))) ?_
  refine e_pickT rfl rfl rfl rfl ?_
  refine e_assign rfl rfl ?_
  refine e_nil ?_
  refine e_ret ?_
  exact ⟨_, rfl, .tmp rfl⟩

set_option maxHeartbeats 400000 in
theorem fieldGroups_fn (f g h : Nat → Nat) (hf : ∀ j, j < 32 → f j < 256) (hg : ∀ j, j < 32 → g j < 256) (hh : ∀ j, j < 32 → h j < 256) : Fn Try.prog G 3 #[.agg (arr .u8 32 f), .agg (arr .u8 32 g), .agg (arr .u8 32 h)] (.bool true) := by
  obtain ⟨x, hx⟩ : ∃ x, x = vb f 32 % 2 ^ 255 % PP := ⟨_, rfl⟩
  have hxP : x < PP := by rw [hx]; exact Nat.mod_lt _ (by decide)
  obtain ⟨y, hy⟩ : ∃ y, y = vb g 32 % 2 ^ 255 % PP := ⟨_, rfl⟩
  have hyP : y < PP := by rw [hy]; exact Nat.mod_lt _ (by decide)
  obtain ⟨z, hz⟩ : ∃ z, z = vb h 32 % 2 ^ 255 % PP := ⟨_, rfl⟩
  have hzP : z < PP := by rw [hz]; exact Nat.mod_lt _ (by decide)
  refine fn1 (n := 27) Try.func3 rfl rfl (by simp) (argE [.agg (arr .u8 32 f), .agg (arr .u8 32 g), .agg (arr .u8 32 h)] 0) (argE_ok _) ?_
  refine e_seq ?_
  refine e_plain ?_
  refine e_box 0 rfl rfl fun r1 => ?_
  refine e_box 1 rfl rfl fun r2 => ?_
  refine e_box 2 rfl rfl fun r3 => ?_
  refine e_assign rfl rfl ?_
  refine e_nil ?_
  refine e_seq ?_
  refine e_draw mixed (by kernel_rfl) ?_
  refine e_loadA (i := 0) und22 rfl siz22 rfl rfl (arr_size _ _ _) rfl ?_
  refine e_call rfl ent5 (from_fn f hf) rfl ?_
  refine e_as (congrArg fe hx.symm) ?_
  refine e_loadA (i := 1) und22 rfl siz22 rfl rfl (arr_size _ _ _) rfl ?_
  refine e_call rfl ent5 (from_fn g hg) rfl ?_
  refine e_as (congrArg fe hy.symm) ?_
  refine e_loadA (i := 2) und22 rfl siz22 rfl rfl (arr_size _ _ _) rfl ?_
  refine e_call rfl ent5 (from_fn h hh) rfl ?_
  refine e_as (congrArg fe hz.symm) ?_
  refine e_alloc 3 zer25 rfl fun r4 => ?_
  refine e_alloc 4 zer25 rfl fun r5 => ?_
  refine e_alloc 5 zer25 rfl fun r6 => ?_
  refine e_storeA (i := 3) siz25 rfl rfl (arr_size _ _ _) arr_one rfl (arr_sz _ _ _ _ _) ?_
  refine e_storeA (i := 4) siz25 rfl rfl (arr_size _ _ _) arr_one rfl (arr_sz _ _ _ _ _) ?_
  refine e_storeA (i := 5) siz25 rfl rfl (arr_size _ _ _) arr_one rfl (arr_sz _ _ _ _ _) ?_
  refine e_nil ?_
  refine e_seq ?_
  refine e_plain ?_
  refine e_func rfl rfl rfl ?_
  refine e_assign rfl rfl ?_
  refine e_nil ?_
  refine e_seq ?_
  refine e_plain ?_
  refine e_call rfl ent7 tells_fn rfl ?_
  refine e_move rfl rfl ?_
  refine e_yes rfl rfl rfl ?_
  refine e_move rfl rfl ?_
  refine e_yes rfl rfl rfl ?_
  refine e_callV [⟨r4, arr .u64 4 (wd x), 25⟩, ⟨r5, arr .u64 4 (wd y), 25⟩, ⟨r6, arr .u64 4 (wd z), 25⟩] rfl rfl ent6 ⟨⟨3, rfl⟩, ⟨4, rfl⟩, ⟨5, rfl⟩, trivial⟩ (three_add _ _ _ x y z hxP hyP hzP) rfl ?_
  refine e_pickT rfl rfl rfl rfl ?_
  refine e_move rfl rfl ?_
  refine e_yes rfl rfl rfl ?_
  refine e_move rfl rfl ?_
  refine e_yes rfl rfl rfl ?_
  refine e_callV [⟨r4, arr .u64 4 (wd x), 25⟩, ⟨r5, arr .u64 4 (wd y), 25⟩, ⟨r6, arr .u64 4 (wd z), 25⟩] rfl rfl ent6 ⟨⟨3, rfl⟩, ⟨4, rfl⟩, ⟨5, rfl⟩, trivial⟩ (three_mul _ _ _ x y z hxP hyP hzP) rfl ?_
  refine e_pickT rfl rfl rfl rfl ?_
  refine e_assign rfl rfl ?_
  refine e_nil ?_
  refine e_ret ?_
  exact ⟨_, rfl, .tmp rfl⟩

end Go.Proofs.Ytkoigikldikmmaa
