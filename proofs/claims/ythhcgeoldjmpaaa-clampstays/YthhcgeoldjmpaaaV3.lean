/-
  Walks, written by a program of ours off the loaded functions.
-/
import Derived.Test.YthhcgeoldjmpaaaV2
namespace Go.Proofs.Ythhcgeoldjmpaaa
open Go Go.RowKit

theorem lmult_to (f g : Nat → Nat) (hf : ∀ j, j < 32 → f j < 256) (hg : ∀ j, j < 32 → g j < 256) {y : Nat} {G : Mem} (hy : nOut (pnt g) (sec f) = y) : Fn Try.prog G 7 #[.agg (arr .u8 32 f), .agg (arr .u8 32 g)] (.tuple #[by32 y, .bool (!decide (y = 0))]) := hy ▸ lmult_fn f g hf hg

theorem ent8 : enters Try.prog 8 = true := by kernel_rfl
theorem eqg23 : Try.prog.eqGuardType Try.prog.depth 23 = false := by kernel_rfl
theorem sis5 : ((Try.prog.info? 5).map (·.size)).isSome = true := by kernel_rfl
theorem und4 : Try.prog.underlying 4 = some (.bool) := by kernel_rfl

variable {G : Mem}

set_option maxHeartbeats 400000 in
theorem dh_00 (f g h : Nat → Nat) (hf : ∀ j, j < 32 → f j < 256) (hg : ∀ j, j < 32 → g j < 256) (hh : ∀ j, j < 32 → h j < 256) (hs : nOut (pnt h) (sec f) = 0) (ht : nOut (pnt h) (sec g) = 0) : Fn Try.prog G 3 #[.agg (arr .u8 32 f), .agg (arr .u8 32 g), .agg (arr .u8 32 h)] (.bool true) := by
  obtain ⟨X, hX⟩ : ∃ X, X = nOut (pnt h) (sec f) := ⟨_, rfl⟩
  have hXL : X < PP := by rw [hX]; exact nOut_lt _ _
  obtain ⟨Y, hY⟩ : ∃ Y, Y = nOut (pnt h) (sec g) := ⟨_, rfl⟩
  have hYL : Y < PP := by rw [hY]; exact nOut_lt _ _
  rw [← hX] at hs
  rw [← hY] at ht
  obtain ⟨Z, hZ⟩ : ∃ Z, Z = nOut X (sec g) := ⟨_, rfl⟩
  have hZL : Z < PP := by rw [hZ]; exact nOut_lt _ _
  have hZ2 : nOut Y (sec f) = Z := by rw [hZ, hX, hY]; exact nOut_turns (pnt_lt h) (sec_top hf).2 (sec_top hg).2 (sec_two f) (sec_two g)
  have h9 : ¬ nOut 9 (sec f) = 0 := nOut_nine (sec_eight f) (sec_top hf).1 (sec_top hf).2
  refine fn1 (n := 86) Try.func3 rfl rfl (by simp) (argE [.agg (arr .u8 32 f), .agg (arr .u8 32 g), .agg (arr .u8 32 h)] 0) (argE_ok _) ?_
  refine e_seq ?_
  refine e_plain ?_
  refine e_box 0 rfl rfl fun r1 => ?_
  refine e_box 1 rfl rfl fun r2 => ?_
  refine e_box 2 rfl rfl fun r3 => ?_
  refine e_assign rfl rfl ?_
  refine e_nil ?_
  refine e_seq ?_
  refine e_plain ?_
  refine e_loadA (i := 0) und22 rfl siz22 rfl rfl (arr_size _ _ _) rfl ?_
  refine e_loadA (i := 2) und22 rfl siz22 rfl rfl (arr_size _ _ _) rfl ?_
  refine e_call rfl ent7 (lmult_to f h hf hh hX.symm) rfl ?_
  refine e_move rfl rfl ?_
  refine e_extract rfl rfl rfl ?_
  refine e_extract rfl rfl rfl ?_
  refine e_as (congrArg Value.bool (show (!decide (_ = 0)) = false by rw [decide_eq_true hs]; rfl)) ?_
  refine e_alloc 3 zer23 rfl fun r4 => ?_
  refine e_storeA (i := 3) siz23 rfl rfl (arr_size _ _ _) arr_one rfl (arr_sz _ _ _ _ _) ?_
  refine e_assign rfl rfl ?_
  refine e_nil ?_
  refine e_seq ?_
  refine e_plain ?_
  refine e_loadA (i := 1) und22 rfl siz22 rfl rfl (arr_size _ _ _) rfl ?_
  refine e_loadA (i := 2) und22 rfl siz22 rfl rfl (arr_size _ _ _) rfl ?_
  refine e_call rfl ent7 (lmult_to g h hg hh hY.symm) rfl ?_
  refine e_move rfl rfl ?_
  refine e_extract rfl rfl rfl ?_
  refine e_extract rfl rfl rfl ?_
  refine e_as (congrArg Value.bool (show (!decide (_ = 0)) = false by rw [decide_eq_true ht]; rfl)) ?_
  refine e_alloc 4 zer23 rfl fun r5 => ?_
  refine e_storeA (i := 4) siz23 rfl rfl (arr_size _ _ _) arr_one rfl (arr_sz _ _ _ _ _) ?_
  refine e_assign rfl rfl ?_
  refine e_nil ?_
  refine e_seq ?_
  refine e_plain ?_
  refine e_loadA (i := 1) und22 rfl siz22 rfl rfl (arr_size _ _ _) rfl ?_
  refine e_loadA (i := 3) und23 rfl siz23 rfl rfl (arr_size _ _ _) rfl ?_
  refine e_call rfl ent7 (lmult_to g (bt X) hg (fun j _ => bt_lt _ j) (y := Z) (by rw [pnt_bt hXL]; exact hZ.symm)) rfl ?_
  refine e_move rfl rfl ?_
  refine e_extract rfl rfl rfl ?_
  refine e_extract rfl rfl rfl ?_
  refine e_alloc 5 zer23 rfl fun r6 => ?_
  refine e_storeA (i := 5) siz23 rfl rfl (arr_size _ _ _) arr_one rfl (arr_sz _ _ _ _ _) ?_
  refine e_assign rfl rfl ?_
  refine e_nil ?_
  refine e_seq ?_
  refine e_plain ?_
  refine e_loadA (i := 0) und22 rfl siz22 rfl rfl (arr_size _ _ _) rfl ?_
  refine e_loadA (i := 4) und23 rfl siz23 rfl rfl (arr_size _ _ _) rfl ?_
  refine e_call rfl ent7 (lmult_to f (bt Y) hf (fun j _ => bt_lt _ j) (y := Z) (by rw [pnt_bt hYL]; exact hZ2)) rfl ?_
  refine e_move rfl rfl ?_
  refine e_extract rfl rfl rfl ?_
  refine e_extract rfl rfl rfl ?_
  refine e_alloc 6 zer23 rfl fun r7 => ?_
  refine e_storeA (i := 6) siz23 rfl rfl (arr_size _ _ _) arr_one rfl (arr_sz _ _ _ _ _) ?_
  refine e_assign rfl rfl ?_
  refine e_nil ?_
  refine e_seq ?_
  refine e_plain ?_
  refine e_loadA (i := 0) und22 rfl siz22 rfl rfl (arr_size _ _ _) rfl ?_
  refine e_build0 zer23 und23 sis5 rfl ?_
  refine e_call rfl ent7 (lmult_to f (fun _ => 0) hf none_lt (y := 0) (by rw [pnt_none]; exact nOut_zero _)) rfl ?_
  refine e_move rfl rfl ?_
  refine e_extract rfl rfl rfl ?_
  refine e_extract rfl rfl rfl ?_
  refine e_as (congrArg Value.bool (show (!decide ((0 : Nat) = 0)) = false by decide)) ?_
  refine e_alloc 7 zer23 rfl fun r8 => ?_
  refine e_storeA (i := 7) siz23 rfl rfl (arr_size _ _ _) arr_one rfl (arr_sz _ _ _ _ _) ?_
  refine e_assign rfl rfl ?_
  refine e_nil ?_
  refine e_seq ?_
  refine e_plain ?_
  refine e_loadA (i := 0) und22 rfl siz22 rfl rfl (arr_size _ _ _) rfl ?_
  refine e_build (arr .u8 32 (upd (fun _ => 0) 0 9)) zer23 und23 siz5 rfl (by kernel_rfl) rfl ?_
  refine e_call rfl ent7 (lmult_to f _ hf nine_lt (y := nOut 9 (sec f)) (by rw [pnt_nine])) rfl ?_
  refine e_move rfl rfl ?_
  refine e_extract rfl rfl rfl ?_
  refine e_extract rfl rfl rfl ?_
  refine e_as (congrArg Value.bool (show (!decide (_ = 0)) = true by rw [decide_eq_false h9]; rfl)) ?_
  refine e_alloc 8 zer23 rfl fun r9 => ?_
  refine e_storeA (i := 8) siz23 rfl rfl (arr_size _ _ _) arr_one rfl (arr_sz _ _ _ _ _) ?_
  refine e_assign rfl rfl ?_
  refine e_nil ?_
  refine e_seq ?_
  refine e_plain ?_
  refine e_move rfl rfl ?_
  refine e_move rfl rfl ?_
  refine e_yes rfl rfl rfl ?_
  refine e_move rfl rfl ?_
  refine e_yes rfl rfl rfl ?_
  refine e_not rfl rfl ?_
  refine e_pickT rfl rfl rfl rfl ?_
  refine e_move rfl rfl ?_
  refine e_yes rfl rfl rfl ?_
  refine e_loadA (i := 5) und23 rfl siz23 rfl rfl (arr_size _ _ _) rfl ?_
  refine e_yes rfl rfl rfl ?_
  refine e_loadA (i := 6) und23 rfl siz23 rfl rfl (arr_size _ _ _) rfl ?_
  refine e_yes rfl rfl rfl ?_
  refine e_eqA und23 und5 siz5 eqg23 rfl rfl rfl ?_
  refine e_as (congrArg Value.bool (allEq_iff.2 (fun _ _ => rfl))) ?_
  refine e_pickT rfl rfl rfl rfl ?_
  refine e_move rfl rfl ?_
  refine e_yes rfl rfl rfl ?_
  refine e_move rfl rfl ?_
  refine e_yes rfl rfl rfl ?_
  refine e_move rfl rfl ?_
  refine e_yes rfl rfl rfl ?_
  refine e_eqB und4 rfl rfl rfl ?_
  refine e_as (congrArg Value.bool (beq_self_eq_true _)) ?_
  refine e_pickT rfl rfl rfl rfl ?_
  refine e_move rfl rfl ?_
  refine e_yes rfl rfl rfl ?_
  refine e_move rfl rfl ?_
  refine e_yes rfl rfl rfl ?_
  refine e_move rfl rfl ?_
  refine e_yes rfl rfl rfl ?_
  refine e_loadA (i := 3) und23 rfl siz23 rfl rfl (arr_size _ _ _) rfl ?_
  refine e_yes rfl rfl rfl ?_
  refine e_build0 zer23 und23 sis5 rfl ?_
  refine e_yes rfl rfl rfl ?_
  refine e_eqA und23 und5 siz5 eqg23 rfl rfl rfl ?_
  refine e_as (congrArg Value.bool ((bt_none hXL).trans (decide_eq_true hs))) ?_
  refine e_yes rfl rfl rfl ?_
  refine e_pickF rfl rfl rfl rfl ?_
  refine e_pickT rfl rfl rfl rfl ?_
  refine e_move rfl rfl ?_
  refine e_yes rfl rfl rfl ?_
  refine e_move rfl rfl ?_
  refine e_yes rfl rfl rfl ?_
  refine e_move rfl rfl ?_
  refine e_yes rfl rfl rfl ?_
  refine e_loadA (i := 4) und23 rfl siz23 rfl rfl (arr_size _ _ _) rfl ?_
  refine e_yes rfl rfl rfl ?_
  refine e_build0 zer23 und23 sis5 rfl ?_
  refine e_yes rfl rfl rfl ?_
  refine e_eqA und23 und5 siz5 eqg23 rfl rfl rfl ?_
  refine e_as (congrArg Value.bool ((bt_none hYL).trans (decide_eq_true ht))) ?_
  refine e_yes rfl rfl rfl ?_
  refine e_pickF rfl rfl rfl rfl ?_
  refine e_pickT rfl rfl rfl rfl ?_
  refine e_assign rfl rfl ?_
  refine e_nil ?_
  refine e_ret ?_
  exact ⟨_, rfl, .tmp rfl⟩

set_option maxHeartbeats 400000 in
theorem dh_01 (f g h : Nat → Nat) (hf : ∀ j, j < 32 → f j < 256) (hg : ∀ j, j < 32 → g j < 256) (hh : ∀ j, j < 32 → h j < 256) (hs : nOut (pnt h) (sec f) = 0) (ht : ¬ nOut (pnt h) (sec g) = 0) : Fn Try.prog G 3 #[.agg (arr .u8 32 f), .agg (arr .u8 32 g), .agg (arr .u8 32 h)] (.bool true) := by
  obtain ⟨X, hX⟩ : ∃ X, X = nOut (pnt h) (sec f) := ⟨_, rfl⟩
  have hXL : X < PP := by rw [hX]; exact nOut_lt _ _
  obtain ⟨Y, hY⟩ : ∃ Y, Y = nOut (pnt h) (sec g) := ⟨_, rfl⟩
  have hYL : Y < PP := by rw [hY]; exact nOut_lt _ _
  rw [← hX] at hs
  rw [← hY] at ht
  obtain ⟨Z, hZ⟩ : ∃ Z, Z = nOut X (sec g) := ⟨_, rfl⟩
  have hZL : Z < PP := by rw [hZ]; exact nOut_lt _ _
  have hZ2 : nOut Y (sec f) = Z := by rw [hZ, hX, hY]; exact nOut_turns (pnt_lt h) (sec_top hf).2 (sec_top hg).2 (sec_two f) (sec_two g)
  have h9 : ¬ nOut 9 (sec f) = 0 := nOut_nine (sec_eight f) (sec_top hf).1 (sec_top hf).2
  refine fn1 (n := 86) Try.func3 rfl rfl (by simp) (argE [.agg (arr .u8 32 f), .agg (arr .u8 32 g), .agg (arr .u8 32 h)] 0) (argE_ok _) ?_
  refine e_seq ?_
  refine e_plain ?_
  refine e_box 0 rfl rfl fun r1 => ?_
  refine e_box 1 rfl rfl fun r2 => ?_
  refine e_box 2 rfl rfl fun r3 => ?_
  refine e_assign rfl rfl ?_
  refine e_nil ?_
  refine e_seq ?_
  refine e_plain ?_
  refine e_loadA (i := 0) und22 rfl siz22 rfl rfl (arr_size _ _ _) rfl ?_
  refine e_loadA (i := 2) und22 rfl siz22 rfl rfl (arr_size _ _ _) rfl ?_
  refine e_call rfl ent7 (lmult_to f h hf hh hX.symm) rfl ?_
  refine e_move rfl rfl ?_
  refine e_extract rfl rfl rfl ?_
  refine e_extract rfl rfl rfl ?_
  refine e_as (congrArg Value.bool (show (!decide (_ = 0)) = false by rw [decide_eq_true hs]; rfl)) ?_
  refine e_alloc 3 zer23 rfl fun r4 => ?_
  refine e_storeA (i := 3) siz23 rfl rfl (arr_size _ _ _) arr_one rfl (arr_sz _ _ _ _ _) ?_
  refine e_assign rfl rfl ?_
  refine e_nil ?_
  refine e_seq ?_
  refine e_plain ?_
  refine e_loadA (i := 1) und22 rfl siz22 rfl rfl (arr_size _ _ _) rfl ?_
  refine e_loadA (i := 2) und22 rfl siz22 rfl rfl (arr_size _ _ _) rfl ?_
  refine e_call rfl ent7 (lmult_to g h hg hh hY.symm) rfl ?_
  refine e_move rfl rfl ?_
  refine e_extract rfl rfl rfl ?_
  refine e_extract rfl rfl rfl ?_
  refine e_as (congrArg Value.bool (show (!decide (_ = 0)) = true by rw [decide_eq_false ht]; rfl)) ?_
  refine e_alloc 4 zer23 rfl fun r5 => ?_
  refine e_storeA (i := 4) siz23 rfl rfl (arr_size _ _ _) arr_one rfl (arr_sz _ _ _ _ _) ?_
  refine e_assign rfl rfl ?_
  refine e_nil ?_
  refine e_seq ?_
  refine e_plain ?_
  refine e_loadA (i := 1) und22 rfl siz22 rfl rfl (arr_size _ _ _) rfl ?_
  refine e_loadA (i := 3) und23 rfl siz23 rfl rfl (arr_size _ _ _) rfl ?_
  refine e_call rfl ent7 (lmult_to g (bt X) hg (fun j _ => bt_lt _ j) (y := Z) (by rw [pnt_bt hXL]; exact hZ.symm)) rfl ?_
  refine e_move rfl rfl ?_
  refine e_extract rfl rfl rfl ?_
  refine e_extract rfl rfl rfl ?_
  refine e_alloc 5 zer23 rfl fun r6 => ?_
  refine e_storeA (i := 5) siz23 rfl rfl (arr_size _ _ _) arr_one rfl (arr_sz _ _ _ _ _) ?_
  refine e_assign rfl rfl ?_
  refine e_nil ?_
  refine e_seq ?_
  refine e_plain ?_
  refine e_loadA (i := 0) und22 rfl siz22 rfl rfl (arr_size _ _ _) rfl ?_
  refine e_loadA (i := 4) und23 rfl siz23 rfl rfl (arr_size _ _ _) rfl ?_
  refine e_call rfl ent7 (lmult_to f (bt Y) hf (fun j _ => bt_lt _ j) (y := Z) (by rw [pnt_bt hYL]; exact hZ2)) rfl ?_
  refine e_move rfl rfl ?_
  refine e_extract rfl rfl rfl ?_
  refine e_extract rfl rfl rfl ?_
  refine e_alloc 6 zer23 rfl fun r7 => ?_
  refine e_storeA (i := 6) siz23 rfl rfl (arr_size _ _ _) arr_one rfl (arr_sz _ _ _ _ _) ?_
  refine e_assign rfl rfl ?_
  refine e_nil ?_
  refine e_seq ?_
  refine e_plain ?_
  refine e_loadA (i := 0) und22 rfl siz22 rfl rfl (arr_size _ _ _) rfl ?_
  refine e_build0 zer23 und23 sis5 rfl ?_
  refine e_call rfl ent7 (lmult_to f (fun _ => 0) hf none_lt (y := 0) (by rw [pnt_none]; exact nOut_zero _)) rfl ?_
  refine e_move rfl rfl ?_
  refine e_extract rfl rfl rfl ?_
  refine e_extract rfl rfl rfl ?_
  refine e_as (congrArg Value.bool (show (!decide ((0 : Nat) = 0)) = false by decide)) ?_
  refine e_alloc 7 zer23 rfl fun r8 => ?_
  refine e_storeA (i := 7) siz23 rfl rfl (arr_size _ _ _) arr_one rfl (arr_sz _ _ _ _ _) ?_
  refine e_assign rfl rfl ?_
  refine e_nil ?_
  refine e_seq ?_
  refine e_plain ?_
  refine e_loadA (i := 0) und22 rfl siz22 rfl rfl (arr_size _ _ _) rfl ?_
  refine e_build (arr .u8 32 (upd (fun _ => 0) 0 9)) zer23 und23 siz5 rfl (by kernel_rfl) rfl ?_
  refine e_call rfl ent7 (lmult_to f _ hf nine_lt (y := nOut 9 (sec f)) (by rw [pnt_nine])) rfl ?_
  refine e_move rfl rfl ?_
  refine e_extract rfl rfl rfl ?_
  refine e_extract rfl rfl rfl ?_
  refine e_as (congrArg Value.bool (show (!decide (_ = 0)) = true by rw [decide_eq_false h9]; rfl)) ?_
  refine e_alloc 8 zer23 rfl fun r9 => ?_
  refine e_storeA (i := 8) siz23 rfl rfl (arr_size _ _ _) arr_one rfl (arr_sz _ _ _ _ _) ?_
  refine e_assign rfl rfl ?_
  refine e_nil ?_
  refine e_seq ?_
  refine e_plain ?_
  refine e_move rfl rfl ?_
  refine e_move rfl rfl ?_
  refine e_yes rfl rfl rfl ?_
  refine e_move rfl rfl ?_
  refine e_yes rfl rfl rfl ?_
  refine e_not rfl rfl ?_
  refine e_pickT rfl rfl rfl rfl ?_
  refine e_move rfl rfl ?_
  refine e_yes rfl rfl rfl ?_
  refine e_loadA (i := 5) und23 rfl siz23 rfl rfl (arr_size _ _ _) rfl ?_
  refine e_yes rfl rfl rfl ?_
  refine e_loadA (i := 6) und23 rfl siz23 rfl rfl (arr_size _ _ _) rfl ?_
  refine e_yes rfl rfl rfl ?_
  refine e_eqA und23 und5 siz5 eqg23 rfl rfl rfl ?_
  refine e_as (congrArg Value.bool (allEq_iff.2 (fun _ _ => rfl))) ?_
  refine e_pickT rfl rfl rfl rfl ?_
  refine e_move rfl rfl ?_
  refine e_yes rfl rfl rfl ?_
  refine e_move rfl rfl ?_
  refine e_yes rfl rfl rfl ?_
  refine e_move rfl rfl ?_
  refine e_yes rfl rfl rfl ?_
  refine e_eqB und4 rfl rfl rfl ?_
  refine e_as (congrArg Value.bool (beq_self_eq_true _)) ?_
  refine e_pickT rfl rfl rfl rfl ?_
  refine e_move rfl rfl ?_
  refine e_yes rfl rfl rfl ?_
  refine e_move rfl rfl ?_
  refine e_yes rfl rfl rfl ?_
  refine e_move rfl rfl ?_
  refine e_yes rfl rfl rfl ?_
  refine e_loadA (i := 3) und23 rfl siz23 rfl rfl (arr_size _ _ _) rfl ?_
  refine e_yes rfl rfl rfl ?_
  refine e_build0 zer23 und23 sis5 rfl ?_
  refine e_yes rfl rfl rfl ?_
  refine e_eqA und23 und5 siz5 eqg23 rfl rfl rfl ?_
  refine e_as (congrArg Value.bool ((bt_none hXL).trans (decide_eq_true hs))) ?_
  refine e_yes rfl rfl rfl ?_
  refine e_pickF rfl rfl rfl rfl ?_
  refine e_pickT rfl rfl rfl rfl ?_
  refine e_move rfl rfl ?_
  refine e_yes rfl rfl rfl ?_
  refine e_move rfl rfl ?_
  refine e_yes rfl rfl rfl ?_
  refine e_move rfl rfl ?_
  refine e_no rfl rfl (by decide) rfl ?_
  refine e_no rfl rfl (by decide) rfl ?_
  refine e_no rfl rfl (by decide) rfl ?_
  refine e_yes rfl rfl rfl ?_
  refine e_pickT rfl rfl rfl rfl ?_
  refine e_pickT rfl rfl rfl rfl ?_
  refine e_assign rfl rfl ?_
  refine e_nil ?_
  refine e_ret ?_
  exact ⟨_, rfl, .tmp rfl⟩

set_option maxHeartbeats 400000 in
theorem dh_10 (f g h : Nat → Nat) (hf : ∀ j, j < 32 → f j < 256) (hg : ∀ j, j < 32 → g j < 256) (hh : ∀ j, j < 32 → h j < 256) (hs : ¬ nOut (pnt h) (sec f) = 0) (ht : nOut (pnt h) (sec g) = 0) : Fn Try.prog G 3 #[.agg (arr .u8 32 f), .agg (arr .u8 32 g), .agg (arr .u8 32 h)] (.bool true) := by
  obtain ⟨X, hX⟩ : ∃ X, X = nOut (pnt h) (sec f) := ⟨_, rfl⟩
  have hXL : X < PP := by rw [hX]; exact nOut_lt _ _
  obtain ⟨Y, hY⟩ : ∃ Y, Y = nOut (pnt h) (sec g) := ⟨_, rfl⟩
  have hYL : Y < PP := by rw [hY]; exact nOut_lt _ _
  rw [← hX] at hs
  rw [← hY] at ht
  obtain ⟨Z, hZ⟩ : ∃ Z, Z = nOut X (sec g) := ⟨_, rfl⟩
  have hZL : Z < PP := by rw [hZ]; exact nOut_lt _ _
  have hZ2 : nOut Y (sec f) = Z := by rw [hZ, hX, hY]; exact nOut_turns (pnt_lt h) (sec_top hf).2 (sec_top hg).2 (sec_two f) (sec_two g)
  have h9 : ¬ nOut 9 (sec f) = 0 := nOut_nine (sec_eight f) (sec_top hf).1 (sec_top hf).2
  refine fn1 (n := 86) Try.func3 rfl rfl (by simp) (argE [.agg (arr .u8 32 f), .agg (arr .u8 32 g), .agg (arr .u8 32 h)] 0) (argE_ok _) ?_
  refine e_seq ?_
  refine e_plain ?_
  refine e_box 0 rfl rfl fun r1 => ?_
  refine e_box 1 rfl rfl fun r2 => ?_
  refine e_box 2 rfl rfl fun r3 => ?_
  refine e_assign rfl rfl ?_
  refine e_nil ?_
  refine e_seq ?_
  refine e_plain ?_
  refine e_loadA (i := 0) und22 rfl siz22 rfl rfl (arr_size _ _ _) rfl ?_
  refine e_loadA (i := 2) und22 rfl siz22 rfl rfl (arr_size _ _ _) rfl ?_
  refine e_call rfl ent7 (lmult_to f h hf hh hX.symm) rfl ?_
  refine e_move rfl rfl ?_
  refine e_extract rfl rfl rfl ?_
  refine e_extract rfl rfl rfl ?_
  refine e_as (congrArg Value.bool (show (!decide (_ = 0)) = true by rw [decide_eq_false hs]; rfl)) ?_
  refine e_alloc 3 zer23 rfl fun r4 => ?_
  refine e_storeA (i := 3) siz23 rfl rfl (arr_size _ _ _) arr_one rfl (arr_sz _ _ _ _ _) ?_
  refine e_assign rfl rfl ?_
  refine e_nil ?_
  refine e_seq ?_
  refine e_plain ?_
  refine e_loadA (i := 1) und22 rfl siz22 rfl rfl (arr_size _ _ _) rfl ?_
  refine e_loadA (i := 2) und22 rfl siz22 rfl rfl (arr_size _ _ _) rfl ?_
  refine e_call rfl ent7 (lmult_to g h hg hh hY.symm) rfl ?_
  refine e_move rfl rfl ?_
  refine e_extract rfl rfl rfl ?_
  refine e_extract rfl rfl rfl ?_
  refine e_as (congrArg Value.bool (show (!decide (_ = 0)) = false by rw [decide_eq_true ht]; rfl)) ?_
  refine e_alloc 4 zer23 rfl fun r5 => ?_
  refine e_storeA (i := 4) siz23 rfl rfl (arr_size _ _ _) arr_one rfl (arr_sz _ _ _ _ _) ?_
  refine e_assign rfl rfl ?_
  refine e_nil ?_
  refine e_seq ?_
  refine e_plain ?_
  refine e_loadA (i := 1) und22 rfl siz22 rfl rfl (arr_size _ _ _) rfl ?_
  refine e_loadA (i := 3) und23 rfl siz23 rfl rfl (arr_size _ _ _) rfl ?_
  refine e_call rfl ent7 (lmult_to g (bt X) hg (fun j _ => bt_lt _ j) (y := Z) (by rw [pnt_bt hXL]; exact hZ.symm)) rfl ?_
  refine e_move rfl rfl ?_
  refine e_extract rfl rfl rfl ?_
  refine e_extract rfl rfl rfl ?_
  refine e_alloc 5 zer23 rfl fun r6 => ?_
  refine e_storeA (i := 5) siz23 rfl rfl (arr_size _ _ _) arr_one rfl (arr_sz _ _ _ _ _) ?_
  refine e_assign rfl rfl ?_
  refine e_nil ?_
  refine e_seq ?_
  refine e_plain ?_
  refine e_loadA (i := 0) und22 rfl siz22 rfl rfl (arr_size _ _ _) rfl ?_
  refine e_loadA (i := 4) und23 rfl siz23 rfl rfl (arr_size _ _ _) rfl ?_
  refine e_call rfl ent7 (lmult_to f (bt Y) hf (fun j _ => bt_lt _ j) (y := Z) (by rw [pnt_bt hYL]; exact hZ2)) rfl ?_
  refine e_move rfl rfl ?_
  refine e_extract rfl rfl rfl ?_
  refine e_extract rfl rfl rfl ?_
  refine e_alloc 6 zer23 rfl fun r7 => ?_
  refine e_storeA (i := 6) siz23 rfl rfl (arr_size _ _ _) arr_one rfl (arr_sz _ _ _ _ _) ?_
  refine e_assign rfl rfl ?_
  refine e_nil ?_
  refine e_seq ?_
  refine e_plain ?_
  refine e_loadA (i := 0) und22 rfl siz22 rfl rfl (arr_size _ _ _) rfl ?_
  refine e_build0 zer23 und23 sis5 rfl ?_
  refine e_call rfl ent7 (lmult_to f (fun _ => 0) hf none_lt (y := 0) (by rw [pnt_none]; exact nOut_zero _)) rfl ?_
  refine e_move rfl rfl ?_
  refine e_extract rfl rfl rfl ?_
  refine e_extract rfl rfl rfl ?_
  refine e_as (congrArg Value.bool (show (!decide ((0 : Nat) = 0)) = false by decide)) ?_
  refine e_alloc 7 zer23 rfl fun r8 => ?_
  refine e_storeA (i := 7) siz23 rfl rfl (arr_size _ _ _) arr_one rfl (arr_sz _ _ _ _ _) ?_
  refine e_assign rfl rfl ?_
  refine e_nil ?_
  refine e_seq ?_
  refine e_plain ?_
  refine e_loadA (i := 0) und22 rfl siz22 rfl rfl (arr_size _ _ _) rfl ?_
  refine e_build (arr .u8 32 (upd (fun _ => 0) 0 9)) zer23 und23 siz5 rfl (by kernel_rfl) rfl ?_
  refine e_call rfl ent7 (lmult_to f _ hf nine_lt (y := nOut 9 (sec f)) (by rw [pnt_nine])) rfl ?_
  refine e_move rfl rfl ?_
  refine e_extract rfl rfl rfl ?_
  refine e_extract rfl rfl rfl ?_
  refine e_as (congrArg Value.bool (show (!decide (_ = 0)) = true by rw [decide_eq_false h9]; rfl)) ?_
  refine e_alloc 8 zer23 rfl fun r9 => ?_
  refine e_storeA (i := 8) siz23 rfl rfl (arr_size _ _ _) arr_one rfl (arr_sz _ _ _ _ _) ?_
  refine e_assign rfl rfl ?_
  refine e_nil ?_
  refine e_seq ?_
  refine e_plain ?_
  refine e_move rfl rfl ?_
  refine e_move rfl rfl ?_
  refine e_yes rfl rfl rfl ?_
  refine e_move rfl rfl ?_
  refine e_yes rfl rfl rfl ?_
  refine e_not rfl rfl ?_
  refine e_pickT rfl rfl rfl rfl ?_
  refine e_move rfl rfl ?_
  refine e_yes rfl rfl rfl ?_
  refine e_loadA (i := 5) und23 rfl siz23 rfl rfl (arr_size _ _ _) rfl ?_
  refine e_yes rfl rfl rfl ?_
  refine e_loadA (i := 6) und23 rfl siz23 rfl rfl (arr_size _ _ _) rfl ?_
  refine e_yes rfl rfl rfl ?_
  refine e_eqA und23 und5 siz5 eqg23 rfl rfl rfl ?_
  refine e_as (congrArg Value.bool (allEq_iff.2 (fun _ _ => rfl))) ?_
  refine e_pickT rfl rfl rfl rfl ?_
  refine e_move rfl rfl ?_
  refine e_yes rfl rfl rfl ?_
  refine e_move rfl rfl ?_
  refine e_yes rfl rfl rfl ?_
  refine e_move rfl rfl ?_
  refine e_yes rfl rfl rfl ?_
  refine e_eqB und4 rfl rfl rfl ?_
  refine e_as (congrArg Value.bool (beq_self_eq_true _)) ?_
  refine e_pickT rfl rfl rfl rfl ?_
  refine e_move rfl rfl ?_
  refine e_yes rfl rfl rfl ?_
  refine e_move rfl rfl ?_
  refine e_yes rfl rfl rfl ?_
  refine e_move rfl rfl ?_
  refine e_no rfl rfl (by decide) rfl ?_
  refine e_no rfl rfl (by decide) rfl ?_
  refine e_no rfl rfl (by decide) rfl ?_
  refine e_yes rfl rfl rfl ?_
  refine e_pickT rfl rfl rfl rfl ?_
  refine e_pickT rfl rfl rfl rfl ?_
  refine e_move rfl rfl ?_
  refine e_yes rfl rfl rfl ?_
  refine e_move rfl rfl ?_
  refine e_yes rfl rfl rfl ?_
  refine e_move rfl rfl ?_
  refine e_yes rfl rfl rfl ?_
  refine e_loadA (i := 4) und23 rfl siz23 rfl rfl (arr_size _ _ _) rfl ?_
  refine e_yes rfl rfl rfl ?_
  refine e_build0 zer23 und23 sis5 rfl ?_
  refine e_yes rfl rfl rfl ?_
  refine e_eqA und23 und5 siz5 eqg23 rfl rfl rfl ?_
  refine e_as (congrArg Value.bool ((bt_none hYL).trans (decide_eq_true ht))) ?_
  refine e_yes rfl rfl rfl ?_
  refine e_pickF rfl rfl rfl rfl ?_
  refine e_pickT rfl rfl rfl rfl ?_
  refine e_assign rfl rfl ?_
  refine e_nil ?_
  refine e_ret ?_
  exact ⟨_, rfl, .tmp rfl⟩

set_option maxHeartbeats 400000 in
theorem dh_11 (f g h : Nat → Nat) (hf : ∀ j, j < 32 → f j < 256) (hg : ∀ j, j < 32 → g j < 256) (hh : ∀ j, j < 32 → h j < 256) (hs : ¬ nOut (pnt h) (sec f) = 0) (ht : ¬ nOut (pnt h) (sec g) = 0) : Fn Try.prog G 3 #[.agg (arr .u8 32 f), .agg (arr .u8 32 g), .agg (arr .u8 32 h)] (.bool true) := by
  obtain ⟨X, hX⟩ : ∃ X, X = nOut (pnt h) (sec f) := ⟨_, rfl⟩
  have hXL : X < PP := by rw [hX]; exact nOut_lt _ _
  obtain ⟨Y, hY⟩ : ∃ Y, Y = nOut (pnt h) (sec g) := ⟨_, rfl⟩
  have hYL : Y < PP := by rw [hY]; exact nOut_lt _ _
  rw [← hX] at hs
  rw [← hY] at ht
  obtain ⟨Z, hZ⟩ : ∃ Z, Z = nOut X (sec g) := ⟨_, rfl⟩
  have hZL : Z < PP := by rw [hZ]; exact nOut_lt _ _
  have hZ2 : nOut Y (sec f) = Z := by rw [hZ, hX, hY]; exact nOut_turns (pnt_lt h) (sec_top hf).2 (sec_top hg).2 (sec_two f) (sec_two g)
  have h9 : ¬ nOut 9 (sec f) = 0 := nOut_nine (sec_eight f) (sec_top hf).1 (sec_top hf).2
  refine fn1 (n := 86) Try.func3 rfl rfl (by simp) (argE [.agg (arr .u8 32 f), .agg (arr .u8 32 g), .agg (arr .u8 32 h)] 0) (argE_ok _) ?_
  refine e_seq ?_
  refine e_plain ?_
  refine e_box 0 rfl rfl fun r1 => ?_
  refine e_box 1 rfl rfl fun r2 => ?_
  refine e_box 2 rfl rfl fun r3 => ?_
  refine e_assign rfl rfl ?_
  refine e_nil ?_
  refine e_seq ?_
  refine e_plain ?_
  refine e_loadA (i := 0) und22 rfl siz22 rfl rfl (arr_size _ _ _) rfl ?_
  refine e_loadA (i := 2) und22 rfl siz22 rfl rfl (arr_size _ _ _) rfl ?_
  refine e_call rfl ent7 (lmult_to f h hf hh hX.symm) rfl ?_
  refine e_move rfl rfl ?_
  refine e_extract rfl rfl rfl ?_
  refine e_extract rfl rfl rfl ?_
  refine e_as (congrArg Value.bool (show (!decide (_ = 0)) = true by rw [decide_eq_false hs]; rfl)) ?_
  refine e_alloc 3 zer23 rfl fun r4 => ?_
  refine e_storeA (i := 3) siz23 rfl rfl (arr_size _ _ _) arr_one rfl (arr_sz _ _ _ _ _) ?_
  refine e_assign rfl rfl ?_
  refine e_nil ?_
  refine e_seq ?_
  refine e_plain ?_
  refine e_loadA (i := 1) und22 rfl siz22 rfl rfl (arr_size _ _ _) rfl ?_
  refine e_loadA (i := 2) und22 rfl siz22 rfl rfl (arr_size _ _ _) rfl ?_
  refine e_call rfl ent7 (lmult_to g h hg hh hY.symm) rfl ?_
  refine e_move rfl rfl ?_
  refine e_extract rfl rfl rfl ?_
  refine e_extract rfl rfl rfl ?_
  refine e_as (congrArg Value.bool (show (!decide (_ = 0)) = true by rw [decide_eq_false ht]; rfl)) ?_
  refine e_alloc 4 zer23 rfl fun r5 => ?_
  refine e_storeA (i := 4) siz23 rfl rfl (arr_size _ _ _) arr_one rfl (arr_sz _ _ _ _ _) ?_
  refine e_assign rfl rfl ?_
  refine e_nil ?_
  refine e_seq ?_
  refine e_plain ?_
  refine e_loadA (i := 1) und22 rfl siz22 rfl rfl (arr_size _ _ _) rfl ?_
  refine e_loadA (i := 3) und23 rfl siz23 rfl rfl (arr_size _ _ _) rfl ?_
  refine e_call rfl ent7 (lmult_to g (bt X) hg (fun j _ => bt_lt _ j) (y := Z) (by rw [pnt_bt hXL]; exact hZ.symm)) rfl ?_
  refine e_move rfl rfl ?_
  refine e_extract rfl rfl rfl ?_
  refine e_extract rfl rfl rfl ?_
  refine e_alloc 5 zer23 rfl fun r6 => ?_
  refine e_storeA (i := 5) siz23 rfl rfl (arr_size _ _ _) arr_one rfl (arr_sz _ _ _ _ _) ?_
  refine e_assign rfl rfl ?_
  refine e_nil ?_
  refine e_seq ?_
  refine e_plain ?_
  refine e_loadA (i := 0) und22 rfl siz22 rfl rfl (arr_size _ _ _) rfl ?_
  refine e_loadA (i := 4) und23 rfl siz23 rfl rfl (arr_size _ _ _) rfl ?_
  refine e_call rfl ent7 (lmult_to f (bt Y) hf (fun j _ => bt_lt _ j) (y := Z) (by rw [pnt_bt hYL]; exact hZ2)) rfl ?_
  refine e_move rfl rfl ?_
  refine e_extract rfl rfl rfl ?_
  refine e_extract rfl rfl rfl ?_
  refine e_alloc 6 zer23 rfl fun r7 => ?_
  refine e_storeA (i := 6) siz23 rfl rfl (arr_size _ _ _) arr_one rfl (arr_sz _ _ _ _ _) ?_
  refine e_assign rfl rfl ?_
  refine e_nil ?_
  refine e_seq ?_
  refine e_plain ?_
  refine e_loadA (i := 0) und22 rfl siz22 rfl rfl (arr_size _ _ _) rfl ?_
  refine e_build0 zer23 und23 sis5 rfl ?_
  refine e_call rfl ent7 (lmult_to f (fun _ => 0) hf none_lt (y := 0) (by rw [pnt_none]; exact nOut_zero _)) rfl ?_
  refine e_move rfl rfl ?_
  refine e_extract rfl rfl rfl ?_
  refine e_extract rfl rfl rfl ?_
  refine e_as (congrArg Value.bool (show (!decide ((0 : Nat) = 0)) = false by decide)) ?_
  refine e_alloc 7 zer23 rfl fun r8 => ?_
  refine e_storeA (i := 7) siz23 rfl rfl (arr_size _ _ _) arr_one rfl (arr_sz _ _ _ _ _) ?_
  refine e_assign rfl rfl ?_
  refine e_nil ?_
  refine e_seq ?_
  refine e_plain ?_
  refine e_loadA (i := 0) und22 rfl siz22 rfl rfl (arr_size _ _ _) rfl ?_
  refine e_build (arr .u8 32 (upd (fun _ => 0) 0 9)) zer23 und23 siz5 rfl (by kernel_rfl) rfl ?_
  refine e_call rfl ent7 (lmult_to f _ hf nine_lt (y := nOut 9 (sec f)) (by rw [pnt_nine])) rfl ?_
  refine e_move rfl rfl ?_
  refine e_extract rfl rfl rfl ?_
  refine e_extract rfl rfl rfl ?_
  refine e_as (congrArg Value.bool (show (!decide (_ = 0)) = true by rw [decide_eq_false h9]; rfl)) ?_
  refine e_alloc 8 zer23 rfl fun r9 => ?_
  refine e_storeA (i := 8) siz23 rfl rfl (arr_size _ _ _) arr_one rfl (arr_sz _ _ _ _ _) ?_
  refine e_assign rfl rfl ?_
  refine e_nil ?_
  refine e_seq ?_
  refine e_plain ?_
  refine e_move rfl rfl ?_
  refine e_move rfl rfl ?_
  refine e_yes rfl rfl rfl ?_
  refine e_move rfl rfl ?_
  refine e_yes rfl rfl rfl ?_
  refine e_not rfl rfl ?_
  refine e_pickT rfl rfl rfl rfl ?_
  refine e_move rfl rfl ?_
  refine e_yes rfl rfl rfl ?_
  refine e_loadA (i := 5) und23 rfl siz23 rfl rfl (arr_size _ _ _) rfl ?_
  refine e_yes rfl rfl rfl ?_
  refine e_loadA (i := 6) und23 rfl siz23 rfl rfl (arr_size _ _ _) rfl ?_
  refine e_yes rfl rfl rfl ?_
  refine e_eqA und23 und5 siz5 eqg23 rfl rfl rfl ?_
  refine e_as (congrArg Value.bool (allEq_iff.2 (fun _ _ => rfl))) ?_
  refine e_pickT rfl rfl rfl rfl ?_
  refine e_move rfl rfl ?_
  refine e_yes rfl rfl rfl ?_
  refine e_move rfl rfl ?_
  refine e_yes rfl rfl rfl ?_
  refine e_move rfl rfl ?_
  refine e_yes rfl rfl rfl ?_
  refine e_eqB und4 rfl rfl rfl ?_
  refine e_as (congrArg Value.bool (beq_self_eq_true _)) ?_
  refine e_pickT rfl rfl rfl rfl ?_
  refine e_move rfl rfl ?_
  refine e_yes rfl rfl rfl ?_
  refine e_move rfl rfl ?_
  refine e_yes rfl rfl rfl ?_
  refine e_move rfl rfl ?_
  refine e_no rfl rfl (by decide) rfl ?_
  refine e_no rfl rfl (by decide) rfl ?_
  refine e_no rfl rfl (by decide) rfl ?_
  refine e_yes rfl rfl rfl ?_
  refine e_pickT rfl rfl rfl rfl ?_
  refine e_pickT rfl rfl rfl rfl ?_
  refine e_move rfl rfl ?_
  refine e_yes rfl rfl rfl ?_
  refine e_move rfl rfl ?_
  refine e_yes rfl rfl rfl ?_
  refine e_move rfl rfl ?_
  refine e_no rfl rfl (by decide) rfl ?_
  refine e_no rfl rfl (by decide) rfl ?_
  refine e_no rfl rfl (by decide) rfl ?_
  refine e_yes rfl rfl rfl ?_
  refine e_pickT rfl rfl rfl rfl ?_
  refine e_pickT rfl rfl rfl rfl ?_
  refine e_assign rfl rfl ?_
  refine e_nil ?_
  refine e_ret ?_
  exact ⟨_, rfl, .tmp rfl⟩

set_option maxHeartbeats 400000 in
theorem keysAgree_fn (f g : Nat → Nat) (hf : ∀ j, j < 32 → f j < 256) (hg : ∀ j, j < 32 → g j < 256) : Fn Try.prog G 4 #[.agg (arr .u8 32 f), .agg (arr .u8 32 g)] (.bool true) := by
  obtain ⟨A, hA⟩ : ∃ A, A = nOut 9 (sec f) := ⟨_, rfl⟩
  have hAL : A < PP := by rw [hA]; exact nOut_lt _ _
  obtain ⟨B, hB⟩ : ∃ B, B = nOut 9 (sec g) := ⟨_, rfl⟩
  have hBL : B < PP := by rw [hB]; exact nOut_lt _ _
  obtain ⟨Z, hZ⟩ : ∃ Z, Z = nOut B (sec f) := ⟨_, rfl⟩
  have hZL : Z < PP := by rw [hZ]; exact nOut_lt _ _
  have hZ2 : nOut A (sec g) = Z := by rw [hZ, hA, hB]; exact nOut_turns (by decide) (sec_top hg).2 (sec_top hf).2 (sec_two g) (sec_two f)
  have hz : ¬ Z = 0 := by rw [hZ, hB]; exact nOut_keys (sec_eight f) (sec_top hf).1 (sec_top hf).2 (sec_eight g) (sec_top hg).1 (sec_top hg).2
  refine fn1 (n := 32) Try.func4 rfl rfl (by simp) (argE [.agg (arr .u8 32 f), .agg (arr .u8 32 g)] 0) (argE_ok _) ?_
  refine e_seq ?_
  refine e_plain ?_
  refine e_box 0 rfl rfl fun r1 => ?_
  refine e_box 1 rfl rfl fun r2 => ?_
  refine e_assign rfl rfl ?_
  refine e_nil ?_
  refine e_seq ?_
  refine e_draw mixed (by kernel_rfl) ?_
  refine e_loadA (i := 0) und22 rfl siz22 rfl rfl (arr_size _ _ _) rfl ?_
  refine e_loadA (i := 1) und22 rfl siz22 rfl rfl (arr_size _ _ _) rfl ?_
  refine e_call rfl ent8 (lbase_fn g hg) rfl ?_
  refine e_as (congrArg by32 hB.symm) ?_
  refine e_call rfl ent7 (lmult_to f (bt B) hf (fun j _ => bt_lt _ j) (y := Z) (by rw [pnt_bt hBL]; exact hZ.symm)) rfl ?_
  refine e_move rfl rfl ?_
  refine e_extract rfl rfl rfl ?_
  refine e_extract rfl rfl rfl ?_
  refine e_as (congrArg Value.bool (show (!decide (_ = 0)) = true by rw [decide_eq_false hz]; rfl)) ?_
  refine e_alloc 2 zer23 rfl fun r3 => ?_
  refine e_storeA (i := 2) siz23 rfl rfl (arr_size _ _ _) arr_one rfl (arr_sz _ _ _ _ _) ?_
  refine e_assign rfl rfl ?_
  refine e_nil ?_
  refine e_seq ?_
  refine e_draw mixed (by kernel_rfl) ?_
  refine e_loadA (i := 1) und22 rfl siz22 rfl rfl (arr_size _ _ _) rfl ?_
  refine e_loadA (i := 0) und22 rfl siz22 rfl rfl (arr_size _ _ _) rfl ?_
  refine e_call rfl ent8 (lbase_fn f hf) rfl ?_
  refine e_as (congrArg by32 hA.symm) ?_
  refine e_call rfl ent7 (lmult_to g (bt A) hg (fun j _ => bt_lt _ j) (y := Z) (by rw [pnt_bt hAL]; exact hZ2)) rfl ?_
  refine e_move rfl rfl ?_
  refine e_extract rfl rfl rfl ?_
  refine e_extract rfl rfl rfl ?_
  refine e_as (congrArg Value.bool (show (!decide (_ = 0)) = true by rw [decide_eq_false hz]; rfl)) ?_
  refine e_alloc 3 zer23 rfl fun r4 => ?_
  refine e_storeA (i := 3) siz23 rfl rfl (arr_size _ _ _) arr_one rfl (arr_sz _ _ _ _ _) ?_
  refine e_assign rfl rfl ?_
  refine e_nil ?_
  refine e_seq ?_
  refine e_plain ?_
  refine e_move rfl rfl ?_
  refine e_move rfl rfl ?_
  refine e_yes rfl rfl rfl ?_
  refine e_move rfl rfl ?_
  refine e_pickT rfl rfl rfl rfl ?_
  refine e_move rfl rfl ?_
  refine e_yes rfl rfl rfl ?_
  refine e_loadA (i := 2) und23 rfl siz23 rfl rfl (arr_size _ _ _) rfl ?_
  refine e_yes rfl rfl rfl ?_
  refine e_loadA (i := 3) und23 rfl siz23 rfl rfl (arr_size _ _ _) rfl ?_
  refine e_yes rfl rfl rfl ?_
  refine e_eqA und23 und5 siz5 eqg23 rfl rfl rfl ?_
  refine e_as (congrArg Value.bool (allEq_iff.2 (fun _ _ => rfl))) ?_
  refine e_pickT rfl rfl rfl rfl ?_
  refine e_assign rfl rfl ?_
  refine e_nil ?_
  refine e_ret ?_
  exact ⟨_, rfl, .tmp rfl⟩

set_option maxHeartbeats 400000 in
theorem clampStays_fn (f g : Nat → Nat) (hf : ∀ j, j < 32 → f j < 256) (hg : ∀ j, j < 32 → g j < 256) : Fn Try.prog G 5 #[.agg (arr .u8 32 f), .agg (arr .u8 32 g)] (.bool true) := by
  obtain ⟨Y, hY⟩ : ∃ Y, Y = nOut (pnt g) (sec f) := ⟨_, rfl⟩
  have hYL : Y < PP := by rw [hY]; exact nOut_lt _ _
  refine fn1 (n := 56) Try.func5 rfl rfl (by simp) (argE [.agg (arr .u8 32 f), .agg (arr .u8 32 g)] 0) (argE_ok _) ?_
  refine e_seq ?_
  refine e_plain ?_
  refine e_box 0 rfl rfl fun r1 => ?_
  refine e_box 1 rfl rfl fun r2 => ?_
  refine e_assign rfl rfl ?_
  refine e_nil ?_
  refine e_seq ?_
  refine e_plain ?_
  refine e_loadA (i := 0) und22 rfl siz22 rfl rfl (arr_size _ _ _) rfl ?_
  refine e_call rfl ent9 (lclamp_fn f hf) rfl ?_
  refine e_alloc 2 zer23 rfl fun r3 => ?_
  refine e_storeA (i := 2) siz23 rfl rfl (arr_size _ _ _) arr_one rfl (arr_sz _ _ _ _ _) ?_
  refine e_nil ?_
  refine e_seq ?_
  refine e_plain ?_
  refine e_loadA (i := 1) und22 rfl siz22 rfl rfl (arr_size _ _ _) rfl ?_
  refine e_alloc 3 zer22 rfl fun r4 => ?_
  refine e_storeA (i := 3) siz22 rfl rfl (arr_size _ _ _) arr_one rfl (arr_sz _ _ _ _ _) ?_
  refine e_nil ?_
  refine e_seq ?_
  refine e_plain ?_
  refine e_index0 (j := 31) und22 siz5 rfl rfl (by omega) rfl ?_
  refine e_load1 (i := 3) und5 rfl rfl rfl (arr_get (by omega)) rfl ?_
  refine e_xor_b (q := 128) rfl rfl rfl  ?_
  refine e_index0 (j := 31) und22 siz5 rfl rfl (by omega) rfl ?_
  refine e_storeN (i := 3) siz5 rfl rfl rfl (by omega) ?_
  refine e_nil ?_
  refine e_seq ?_
  refine e_plain ?_
  refine e_loadA (i := 0) und22 rfl siz22 rfl rfl (arr_size _ _ _) rfl ?_
  refine e_loadA (i := 1) und22 rfl siz22 rfl rfl (arr_size _ _ _) rfl ?_
  refine e_call rfl ent7 (lmult_to f g hf hg hY.symm) rfl ?_
  refine e_move rfl rfl ?_
  refine e_extract rfl rfl rfl ?_
  refine e_extract rfl rfl rfl ?_
  refine e_alloc 4 zer23 rfl fun r5 => ?_
  refine e_storeA (i := 4) siz23 rfl rfl (arr_size _ _ _) arr_one rfl (arr_sz _ _ _ _ _) ?_
  refine e_assign rfl rfl ?_
  refine e_nil ?_
  refine e_seq ?_
  refine e_plain ?_
  refine e_loadA (i := 2) und23 rfl siz23 rfl rfl (arr_size _ _ _) rfl ?_
  refine e_loadA (i := 3) und22 rfl siz22 rfl rfl (arr_size _ _ _) rfl ?_
  refine e_call rfl ent7 (lmult_to (clam f) _ (clam_lt hf) (flip_lt hg) (y := Y) (by rw [pnt_flip hg, sec_twice]; exact hY.symm)) rfl ?_
  refine e_move rfl rfl ?_
  refine e_extract rfl rfl rfl ?_
  refine e_extract rfl rfl rfl ?_
  refine e_alloc 5 zer23 rfl fun r6 => ?_
  refine e_storeA (i := 5) siz23 rfl rfl (arr_size _ _ _) arr_one rfl (arr_sz _ _ _ _ _) ?_
  refine e_assign rfl rfl ?_
  refine e_nil ?_
  refine e_seq ?_
  refine e_draw mixed (by kernel_rfl) ?_
  refine e_loadA (i := 2) und23 rfl siz23 rfl rfl (arr_size _ _ _) rfl ?_
  refine e_call rfl ent9 (lclamp_fn (clam f) (clam_lt hf)) rfl ?_
  refine e_loadA (i := 2) und23 rfl siz23 rfl rfl (arr_size _ _ _) rfl ?_
  refine e_eqA und23 und5 siz5 eqg23 rfl rfl rfl ?_
  refine e_as (congrArg Value.bool (allEq_iff.2 (clam_twice f))) ?_
  refine e_move rfl rfl ?_
  refine e_yes rfl rfl rfl ?_
  refine e_index0 (j := 31) und23 siz5 rfl rfl (by omega) rfl ?_
  refine e_yes rfl rfl rfl ?_
  refine e_load1 (i := 2) und5 rfl rfl rfl (arr_get (by omega)) rfl ?_
  refine e_yes rfl rfl rfl ?_
  refine e_and_b (q := 192) rfl rfl rfl  ?_
  refine e_as (congrArg by8 (clam_hi f)) ?_
  refine e_yes rfl rfl rfl ?_
  refine e_eq rfl rfl rfl ?_
  refine e_as (congrArg Value.bool (decide_eq_true rfl)) ?_
  refine e_pickT rfl rfl rfl rfl ?_
  refine e_move rfl rfl ?_
  refine e_yes rfl rfl rfl ?_
  refine e_index0 (j := 0) und23 siz5 rfl rfl (by omega) rfl ?_
  refine e_yes rfl rfl rfl ?_
  refine e_load1 (i := 2) und5 rfl rfl rfl (arr_get (by omega)) rfl ?_
  refine e_yes rfl rfl rfl ?_
  refine e_rem_b (q := 8) rfl rfl rfl (by omega) ?_
  refine e_as (congrArg by8 (clam_lo f)) ?_
  refine e_yes rfl rfl rfl ?_
  refine e_eq rfl rfl rfl ?_
  refine e_as (congrArg Value.bool (decide_eq_true rfl)) ?_
  refine e_pickT rfl rfl rfl rfl ?_
  refine e_move rfl rfl ?_
  refine e_yes rfl rfl rfl ?_
  refine e_loadA (i := 4) und23 rfl siz23 rfl rfl (arr_size _ _ _) rfl ?_
  refine e_yes rfl rfl rfl ?_
  refine e_loadA (i := 5) und23 rfl siz23 rfl rfl (arr_size _ _ _) rfl ?_
  refine e_yes rfl rfl rfl ?_
  refine e_eqA und23 und5 siz5 eqg23 rfl rfl rfl ?_
  refine e_as (congrArg Value.bool (allEq_iff.2 (fun _ _ => rfl))) ?_
  refine e_pickT rfl rfl rfl rfl ?_
  refine e_move rfl rfl ?_
  refine e_yes rfl rfl rfl ?_
  refine e_move rfl rfl ?_
  refine e_yes rfl rfl rfl ?_
  refine e_move rfl rfl ?_
  refine e_yes rfl rfl rfl ?_
  refine e_eqB und4 rfl rfl rfl ?_
  refine e_as (congrArg Value.bool (beq_self_eq_true _)) ?_
  refine e_pickT rfl rfl rfl rfl ?_
  refine e_assign rfl rfl ?_
  refine e_nil ?_
  refine e_ret ?_
  exact ⟨_, rfl, .tmp rfl⟩

end Go.Proofs.Ythhcgeoldjmpaaa
