/-
  Walks, written by a program of ours off the loaded functions.
-/
import Derived.Test.YthhcgeoldjmpaaaDoorQ1
namespace Go.Proofs.YthhcgeoldjmpaaaDoor
open Go Go.RowKit

theorem often_fn (f : Nat → Nat) (U : Nat) (hf : ∀ j, j < 32 → f j < 256) (hU : U < PP) : ∀ m i, i + m = 255 → Fn Tryd.prog [⟨0, arr .u64 16 (d16 PP), 41⟩] 15 #[.agg (arr .u8 32 f), ii i, dg U] (.tuple #[p2v (nLad U (vb f 32) m).1, p2v (nLad U (vb f 32) m).2])
  | 0, i, h => by
    obtain rfl : i = 255 := h
    exact often_base f U
  | m + 1, i, h => by
    have ih := often_fn f U hf hU m (i + 1) (by omega)
    have := often_step f U i (nLad U (vb f 32) m) hf hU (by omega) (nLad_lt hU _ m) ih
    rw [nLad_step, show 254 - m = i by omega]
    exact this

theorem ent7 : enters Tryd.prog 7 = true := by kernel_rfl
theorem ent8 : enters Tryd.prog 8 = true := by kernel_rfl
theorem ent9 : enters Tryd.prog 9 = true := by kernel_rfl
theorem ent10 : enters Tryd.prog 10 = true := by kernel_rfl
theorem ent17 : enters Tryd.prog 17 = true := by kernel_rfl
theorem ent18 : enters Tryd.prog 18 = true := by kernel_rfl
theorem ent21 : enters Tryd.prog 21 = true := by kernel_rfl
theorem eqg22 : Tryd.prog.eqGuardType Tryd.prog.depth 22 = false := by kernel_rfl
theorem eqg23 : Tryd.prog.eqGuardType Tryd.prog.depth 23 = false := by kernel_rfl
theorem sis5 : ((Tryd.prog.info? 5).map (·.size)).isSome = true := by kernel_rfl
theorem und4 : Tryd.prog.underlying 4 = some (.bool) := by kernel_rfl

variable {G : Mem}

set_option maxHeartbeats 400000 in
theorem rmult_fn (f g : Nat → Nat) (hf : ∀ j, j < 32 → f j < 256) (hg : ∀ j, j < 32 → g j < 256) : Fn Tryd.prog [⟨0, arr .u64 16 (d16 PP), 41⟩] 8 #[.agg (arr .u8 32 f), .agg (arr .u8 32 g)] (.tuple #[by32 (nOut (pnt g) (sec f)), .bool (!decide (nOut (pnt g) (sec f) = 0))]) := by
  have hl := nLad_lt (pnt_lt g) (sec f) 255
  refine fn2 (n := 34) Tryd.func8 rfl rfl (by simp) (argE [.agg (arr .u8 32 f), .agg (arr .u8 32 g)] 0) (argE_ok _) ?_
  refine e_seq ?_
  refine e_plain ?_
  refine e_box 0 rfl rfl fun r1 => ?_
  refine e_box 1 rfl rfl fun r2 => ?_
  refine e_alloc 2 zer23 rfl fun r3 => ?_
  refine e_assign rfl rfl ?_
  refine e_nil ?_
  refine e_seq ?_
  refine e_draw mixed (by kernel_rfl) ?_
  refine e_loadA (i := 0) und23 rfl siz23 rfl rfl (arr_size _ _ _) rfl ⟨[], trivial⟩ ?_
  refine e_call rfl ent7 (rclamp_fn f hf) rfl rfl ?_
  refine e_loadA (i := 1) und23 rfl siz23 rfl rfl (arr_size _ _ _) rfl ⟨[], trivial⟩ ?_
  refine e_call rfl ent17 (fromBytes_fn g hg) rfl rfl ?_
  refine e_call rfl ent16 (of_fn (pnt g)) rfl rfl ?_
  refine e_call rfl ent15 (often_fn (clam f) (pnt g) (clam_lt hf) (pnt_lt g) 255 0 rfl) rfl rfl ?_
  refine e_move rfl rfl ?_
  refine e_extract rfl rfl rfl ?_
  refine e_extract rfl rfl rfl ?_
  refine e_alloc 3 zer43 rfl fun r4 => ?_
  refine e_alloc 4 zer43 rfl fun r5 => ?_
  refine e_storeA (i := 3) siz43 rfl rfl (arr_size _ _ _) arr_one rfl (arr_sz _ _ _ _ _) (.inl rfl) ?_
  refine e_storeA (i := 4) siz43 rfl rfl (arr_size _ _ _) arr_one rfl (arr_sz _ _ _ _ _) (.inl rfl) ?_
  refine e_nil ?_
  refine e_seq ?_
  refine e_draw mixed (by kernel_rfl) ?_
  refine e_fld (0) und43 rfl siz41 rfl rfl rfl ?_
  refine e_loadS (i := 3) und41 rfl siz41 rfl rfl (by omega) rfl ⟨[], trivial⟩ ?_
  refine e_as (p2_0 _) ?_
  refine e_fld (16) und43 rfl siz41 rfl rfl rfl ?_
  refine e_loadS (i := 3) und41 rfl siz41 rfl rfl (by omega) rfl ⟨[], trivial⟩ ?_
  refine e_as (p2_16 _) ?_
  refine e_call rfl ent21 (inv16_fn _ hl.1.2) rfl rfl ?_
  refine e_call rfl ent20 (prod16_fn _ _ (lt256 hl.1.1) (lt256 (Nat.mod_lt _ (by decide)))) rfl rfl ?_
  refine e_call rfl ent19 (back_fn _ (vs_lt16 _)) rfl rfl ?_
  refine e_as (congrArg fe (vs_dg (nOut (pnt g) (sec f)) (lt256 (nOut_lt _ _)))) ?_
  refine e_call rfl ent18 (bytesOf_ok _ (nOut_lt _ _)) rfl rfl ?_
  refine e_move rfl rfl ?_
  refine e_extract rfl rfl rfl ?_
  refine e_extract rfl rfl rfl ?_
  refine e_alloc 5 zer22 rfl fun r6 => ?_
  refine e_storeA (i := 5) siz22 rfl rfl (arr_size _ _ _) arr_one rfl (arr_sz _ _ _ _ _) (.inl rfl) ?_
  refine e_assign rfl rfl ?_
  refine e_nil ?_
  refine e_seq ?_
  refine e_drawR ⟨[r3], 1⟩ mixed (by kernel_rfl) ?_
  refine e_loadA (i := 5) und22 rfl siz22 rfl rfl (arr_size _ _ _) rfl ⟨[2], rfl, rfl, trivial⟩ ?_
  refine e_loadA (i := 5) und22 rfl siz22 rfl rfl (arr_size _ _ _) rfl ⟨[2], rfl, rfl, trivial⟩ ?_
  refine e_build0 zer22 und22 sis5 rfl ?_
  refine e_neA und22 und5 siz5 eqg22 rfl rfl rfl ?_
  refine e_as (congrArg (fun z => Value.bool (!z)) (bt_none (nOut_lt _ _))) ?_
  refine e_storeA (i := 2) siz23 rfl rfl (arr_size _ _ _) arr_one rfl (arr_sz _ _ _ _ _) (.inr (by simp)) ?_
  refine e_assign rfl rfl ?_
  refine e_nil ?_
  refine e_ret ?_
  exact ⟨_, _, rfl, .cell (i := 2) rfl rfl und23 rfl siz23 (arr_size _ _ _), .tmp rfl⟩

set_option maxHeartbeats 400000 in
theorem rpub_fn (f : Nat → Nat) (hf : ∀ j, j < 32 → f j < 256) : Fn Tryd.prog [⟨0, arr .u64 16 (d16 PP), 41⟩] 10 #[.agg (arr .u8 32 f)] (by32 (nOut 9 (sec f))) := by
  refine fn1 (n := 12) Tryd.func10 rfl rfl (by simp) (argE [.agg (arr .u8 32 f)] 0) (argE_ok _) ?_
  refine e_seq ?_
  refine e_plain ?_
  refine e_box 0 rfl rfl fun r1 => ?_
  refine e_alloc 1 zer23 rfl fun r2 => ?_
  refine e_nil ?_
  refine e_seq ?_
  refine e_plain ?_
  refine e_loadA (i := 0) und23 rfl siz23 rfl rfl (arr_size _ _ _) rfl ⟨[], trivial⟩ ?_
  refine e_build (arr .u8 32 (upd (fun _ => 0) 0 9)) zer23 und23 siz5 rfl (by kernel_rfl) rfl ?_
  refine e_call rfl ent8 (rmult_fn f (upd (fun _ => 0) 0 9) hf nine_lt) rfl rfl ?_
  refine e_as (congrArg (fun z => Value.tuple #[by32 (nOut z (sec f)), .bool (!decide (nOut z (sec f) = 0))]) pnt_nine) ?_
  refine e_move rfl rfl ?_
  refine e_extract rfl rfl rfl ?_
  refine e_extract rfl rfl rfl ?_
  refine e_alloc 2 zer23 rfl fun r3 => ?_
  refine e_storeA (i := 2) siz23 rfl rfl (arr_size _ _ _) arr_one rfl (arr_sz _ _ _ _ _) (.inl rfl) ?_
  refine e_assign rfl rfl ?_
  refine e_nil ?_
  refine e_seq ?_
  refine e_plain ?_
  refine e_loadA (i := 2) und23 rfl siz23 rfl rfl (arr_size _ _ _) rfl ⟨[], trivial⟩ ?_
  refine e_storeA (i := 1) siz23 rfl rfl (arr_size _ _ _) arr_one rfl (arr_sz _ _ _ _ _) (.inl rfl) ?_
  refine e_nil ?_
  refine e_ret ?_
  exact ⟨_, rfl, .cell (i := 1) rfl rfl und23 rfl siz23 (arr_size _ _ _)⟩

set_option maxHeartbeats 400000 in
theorem ladderMults_fn (f g : Nat → Nat) (hf : ∀ j, j < 32 → f j < 256) (hg : ∀ j, j < 32 → g j < 256) : Fn Tryd.prog [⟨0, arr .u64 16 (d16 PP), 41⟩] 3 #[.agg (arr .u8 32 f), .agg (arr .u8 32 g)] (.bool true) := by
  refine fn1 (n := 40) Tryd.func3 rfl rfl (by simp) (argE [.agg (arr .u8 32 f), .agg (arr .u8 32 g)] 0) (argE_ok _) ?_
  refine e_seq ?_
  refine e_plain ?_
  refine e_box 0 rfl rfl fun r1 => ?_
  refine e_box 1 rfl rfl fun r2 => ?_
  refine e_assign rfl rfl ?_
  refine e_nil ?_
  refine e_seq ?_
  refine e_plain ?_
  refine e_loadA (i := 0) und22 rfl siz22 rfl rfl (arr_size _ _ _) rfl ⟨[], trivial⟩ ?_
  refine e_call rfl ent5 (lclamp_fn f hf) rfl rfl ?_
  refine e_alloc 2 zer23 rfl fun r3 => ?_
  refine e_storeA (i := 2) siz23 rfl rfl (arr_size _ _ _) arr_one rfl (arr_sz _ _ _ _ _) (.inl rfl) ?_
  refine e_nil ?_
  refine e_seq ?_
  refine e_plain ?_
  refine e_loadA (i := 0) und22 rfl siz22 rfl rfl (arr_size _ _ _) rfl ⟨[], trivial⟩ ?_
  refine e_loadA (i := 1) und22 rfl siz22 rfl rfl (arr_size _ _ _) rfl ⟨[], trivial⟩ ?_
  refine e_call rfl ent6 (lmult_fn f g hf hg) rfl rfl ?_
  refine e_move rfl rfl ?_
  refine e_extract rfl rfl rfl ?_
  refine e_extract rfl rfl rfl ?_
  refine e_alloc 3 zer23 rfl fun r4 => ?_
  refine e_storeA (i := 3) siz23 rfl rfl (arr_size _ _ _) arr_one rfl (arr_sz _ _ _ _ _) (.inl rfl) ?_
  refine e_assign rfl rfl ?_
  refine e_nil ?_
  refine e_seq ?_
  refine e_plain ?_
  refine e_loadA (i := 0) und22 rfl siz22 rfl rfl (arr_size _ _ _) rfl ⟨[], trivial⟩ ?_
  refine e_call rfl ent7 (rclamp_fn f hf) rfl rfl ?_
  refine e_alloc 4 zer23 rfl fun r5 => ?_
  refine e_storeA (i := 4) siz23 rfl rfl (arr_size _ _ _) arr_one rfl (arr_sz _ _ _ _ _) (.inl rfl) ?_
  refine e_nil ?_
  refine e_seq ?_
  refine e_plain ?_
  refine e_loadA (i := 0) und22 rfl siz22 rfl rfl (arr_size _ _ _) rfl ⟨[], trivial⟩ ?_
  refine e_loadA (i := 1) und22 rfl siz22 rfl rfl (arr_size _ _ _) rfl ⟨[], trivial⟩ ?_
  refine e_call rfl ent8 (rmult_fn f g hf hg) rfl rfl ?_
  refine e_move rfl rfl ?_
  refine e_extract rfl rfl rfl ?_
  refine e_extract rfl rfl rfl ?_
  refine e_alloc 5 zer23 rfl fun r6 => ?_
  refine e_storeA (i := 5) siz23 rfl rfl (arr_size _ _ _) arr_one rfl (arr_sz _ _ _ _ _) (.inl rfl) ?_
  refine e_assign rfl rfl ?_
  refine e_nil ?_
  refine e_seq ?_
  refine e_plain ?_
  refine e_loadA (i := 2) und23 rfl siz23 rfl rfl (arr_size _ _ _) rfl ⟨[], trivial⟩ ?_
  refine e_loadA (i := 4) und23 rfl siz23 rfl rfl (arr_size _ _ _) rfl ⟨[], trivial⟩ ?_
  refine e_eqA und23 und5 siz5 eqg23 rfl rfl rfl ?_
  refine e_as (congrArg Value.bool (allEq_iff.2 (fun _ _ => rfl))) ?_
  refine e_move rfl rfl ?_
  refine e_yes rfl rfl rfl ?_
  refine e_loadA (i := 3) und23 rfl siz23 rfl rfl (arr_size _ _ _) rfl ⟨[], trivial⟩ ?_
  refine e_yes rfl rfl rfl ?_
  refine e_loadA (i := 5) und23 rfl siz23 rfl rfl (arr_size _ _ _) rfl ⟨[], trivial⟩ ?_
  refine e_yes rfl rfl rfl ?_
  refine e_eqA und23 und5 siz5 eqg23 rfl rfl rfl ?_
  refine e_as (congrArg Value.bool (allEq_iff.2 (fun _ _ => rfl))) ?_
  refine e_pickT rfl rfl rfl rfl ?_
  refine e_move rfl rfl ?_
  refine e_yes rfl rfl rfl ?_
  refine e_move rfl rfl ?_
  refine e_yes rfl rfl rfl ?_
  refine e_move rfl rfl ?_
  refine e_yes rfl rfl rfl ?_
  refine e_eqB und4 rfl rfl rfl ?_
  refine e_as (congrArg Value.bool (beq_self_eq_true _)) ?_
  refine e_pickT rfl rfl rfl rfl ?_
  refine e_assign rfl rfl ?_
  refine e_nil ?_
  refine e_ret ?_
  exact ⟨_, rfl, .tmp rfl⟩

set_option maxHeartbeats 400000 in
theorem ladderBases_fn (f : Nat → Nat) (hf : ∀ j, j < 32 → f j < 256) : Fn Tryd.prog [⟨0, arr .u64 16 (d16 PP), 41⟩] 4 #[.agg (arr .u8 32 f)] (.bool true) := by
  refine fn1 (n := 12) Tryd.func4 rfl rfl (by simp) (argE [.agg (arr .u8 32 f)] 0) (argE_ok _) ?_
  refine e_seq ?_
  refine e_plain ?_
  refine e_box 0 rfl rfl fun r1 => ?_
  refine e_assign rfl rfl ?_
  refine e_nil ?_
  refine e_seq ?_
  refine e_plain ?_
  refine e_loadA (i := 0) und22 rfl siz22 rfl rfl (arr_size _ _ _) rfl ⟨[], trivial⟩ ?_
  refine e_call rfl ent9 (lbase_fn f hf) rfl rfl ?_
  refine e_alloc 1 zer23 rfl fun r2 => ?_
  refine e_storeA (i := 1) siz23 rfl rfl (arr_size _ _ _) arr_one rfl (arr_sz _ _ _ _ _) (.inl rfl) ?_
  refine e_nil ?_
  refine e_seq ?_
  refine e_plain ?_
  refine e_loadA (i := 0) und22 rfl siz22 rfl rfl (arr_size _ _ _) rfl ⟨[], trivial⟩ ?_
  refine e_call rfl ent10 (rpub_fn f hf) rfl rfl ?_
  refine e_alloc 2 zer23 rfl fun r3 => ?_
  refine e_storeA (i := 2) siz23 rfl rfl (arr_size _ _ _) arr_one rfl (arr_sz _ _ _ _ _) (.inl rfl) ?_
  refine e_nil ?_
  refine e_seq ?_
  refine e_plain ?_
  refine e_loadA (i := 1) und23 rfl siz23 rfl rfl (arr_size _ _ _) rfl ⟨[], trivial⟩ ?_
  refine e_loadA (i := 2) und23 rfl siz23 rfl rfl (arr_size _ _ _) rfl ⟨[], trivial⟩ ?_
  refine e_eqA und23 und5 siz5 eqg23 rfl rfl rfl ?_
  refine e_as (congrArg Value.bool (allEq_iff.2 (fun _ _ => rfl))) ?_
  refine e_assign rfl rfl ?_
  refine e_nil ?_
  refine e_ret ?_
  exact ⟨_, rfl, .tmp rfl⟩

end Go.Proofs.YthhcgeoldjmpaaaDoor
