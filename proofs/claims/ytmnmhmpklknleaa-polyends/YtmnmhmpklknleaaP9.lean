/-
  Walks, written by a program of ours off the loaded functions.
-/
import Derived.Test.YtmnmhmpklknleaaP8
namespace Go.Proofs.Ytmnmhmpklknleaa
open Go Go.RowKit


theorem ent9 : enters Try.prog 9 = true := by kernel_rfl
theorem ent10 : enters Try.prog 10 = true := by kernel_rfl
theorem ent13 : enters Try.prog 13 = true := by kernel_rfl
theorem ent14 : enters Try.prog 14 = true := by kernel_rfl
theorem ent15 : enters Try.prog 15 = true := by kernel_rfl
theorem ent16 : enters Try.prog 16 = true := by kernel_rfl
theorem eqg26 : Try.prog.eqGuardType Try.prog.depth 26 = false := by kernel_rfl
theorem eqg28 : Try.prog.eqGuardType Try.prog.depth 28 = false := by kernel_rfl
theorem siz22 : (Try.prog.info? 22).map (·.size) = some 32 := by kernel_rfl
theorem und22 : Try.prog.underlying 22 = some (.array 32 5) := by kernel_rfl
theorem sam28 {f0 : Nat → Nat} {f1 : Nat → Nat} {f2 : Nat → Nat} {f3 : Nat → Nat} {f4 : Int} : Same Try.prog 10000 28 (.agg (cells 24 [pI .u64 2 f0, pI .u64 2 f1, pI .u64 3 f2, pI .u8 16 f3, pV (.int .i64 f4)])) := same_struct und28 (by kernel_rfl) (List.forall_mem_cons.2 ⟨⟨_, shown_row (k := 0) und24 rfl siz24 rfl rfl (Nat.le_of_ble_eq_true rfl), same_arr und24 und23 siz23⟩, (List.forall_mem_cons.2 ⟨⟨_, shown_row (k := 1) und24 rfl siz24 rfl rfl (Nat.le_of_ble_eq_true rfl), same_arr und24 und23 siz23⟩, (List.forall_mem_cons.2 ⟨⟨_, shown_row (k := 2) und25 rfl siz25 rfl rfl (Nat.le_of_ble_eq_true rfl), same_arr und25 und23 siz23⟩, (List.forall_mem_cons.2 ⟨⟨_, shown_row (k := 3) und26 rfl siz26 rfl rfl (Nat.le_of_ble_eq_true rfl), same_arr und26 und5 siz5⟩, (List.forall_mem_cons.2 ⟨⟨_, shown_one (k := 4) und3 rfl rfl rfl (Nat.le_of_ble_eq_true rfl), same_int und3⟩, (fun _ h => nomatch h)⟩)⟩)⟩)⟩)⟩)

variable {G : Mem}

set_option maxHeartbeats 2000000 in
theorem polyBegins_fn (f : Nat → Nat) (hf : ∀ j, j < 32 → f j < 256) (r p a h : Nat → Nat) (n : Int) (ha0 : a 0 < 18446744073709551616) (ha1 : a 1 < 18446744073709551616) (hr0 : r 0 < 18446744073709551616) (hr1 : r 1 < 18446744073709551616) (hBg : Fn Try.prog G 9 #[.agg (arr .u8 32 f)] (PV (w8 (bL f)) (fun j => w8 (bL f) (j + 2)) (fun _ => 0) (fun _ => 0) 0)) (hCk : Fn Try.prog G 10 #[PV r p a h n] (ii (if (okcd r a n && okh n h 16) = true then 0 else 9))) : Fn Try.prog G 3 #[.agg (arr .u8 32 f), PV r p a h n] (.bool true) := by
  refine fn1 (n := 25) Try.func3 rfl rfl (by simp) (argE [.agg (arr .u8 32 f), PV r p a h n] 0) (argE_ok _) ?_
  refine e_seq ?_
  refine e_plain ?_
  refine e_box 0 rfl rfl fun r1 => ?_
  refine e_box 1 rfl rfl fun r2 => ?_
  refine e_assign rfl rfl ?_
  refine e_nil ?_
  refine e_seq ?_
  refine e_draw mixed (by kernel_rfl) ?_
  refine e_loadA (i := 0) und22 rfl siz22 rfl rfl (arr_size _ _ _) rfl ⟨[], trivial⟩ ?_
  refine e_call rfl ent9 hBg rfl rfl ?_
  refine e_loadA (i := 1) und28 rfl siz28 rfl rfl (arrv_size _ _) rfl ⟨[], trivial⟩ ?_
  refine e_call rfl ent10 hCk rfl rfl ?_
  refine e_alloc 2 zer28 rfl fun r3 => ?_
  refine e_storeA (i := 2) siz28 rfl rfl (arrv_size _ _) (cells_one ⟨fun _ => rfl, fun _ => rfl, fun _ => rfl, fun _ => rfl, fun _ => rfl, trivial⟩) rfl cells_sz (.inl rfl) ?_
  refine e_assign rfl rfl ?_
  refine e_nil ?_
  refine e_seq ?_
  refine e_draw mixed (by kernel_rfl) ?_
  refine e_loadA (i := 0) und22 rfl siz22 rfl rfl (arr_size _ _ _) rfl ⟨[], trivial⟩ ?_
  refine e_call rfl ent11 (begun_fn f hf) rfl rfl ?_
  refine e_loadA (i := 1) und28 rfl siz28 rfl rfl (arrv_size _ _) rfl ⟨[], trivial⟩ ?_
  refine e_call rfl ent12 (fault_fn r p a h n ha0 ha1 hr0 hr1) rfl rfl ?_
  refine e_alloc 3 zer28 rfl fun r4 => ?_
  refine e_storeA (i := 3) siz28 rfl rfl (arrv_size _ _) (cells_one ⟨fun _ => rfl, fun _ => rfl, fun _ => rfl, fun _ => rfl, fun _ => rfl, trivial⟩) rfl cells_sz (.inl rfl) ?_
  refine e_assign rfl rfl ?_
  refine e_nil ?_
  refine e_seq ?_
  refine e_plain ?_
  refine e_loadA (i := 2) und28 rfl siz28 rfl rfl (arrv_size _ _) rfl ⟨[], trivial⟩ ?_
  refine e_loadA (i := 3) und28 rfl siz28 rfl rfl (arrv_size _ _) rfl ⟨[], trivial⟩ ?_
  refine e_eqSame sam28 eqg28 rfl rfl rfl ?_
  refine e_move rfl rfl ?_
  refine e_yes rfl rfl rfl ?_
  refine e_move rfl rfl ?_
  refine e_yes rfl rfl rfl ?_
  refine e_move rfl rfl ?_
  refine e_yes rfl rfl rfl ?_
  refine e_eq rfl rfl rfl ?_
  refine e_as (congrArg Value.bool (decide_eq_true rfl)) ?_
  refine e_pickT rfl rfl rfl rfl ?_
  refine e_assign rfl rfl ?_
  refine e_nil ?_
  refine e_ret ?_
  exact ⟨_, rfl, .tmp rfl⟩

set_option maxHeartbeats 2000000 in
theorem polyAdds_fn (r p a h : Nat → Nat) (n : Int) (v : Value) (r1 p1 a1 h1 : Nat → Nat) (n1 : Int) (e : Nat) (hD : Fn Try.prog G 13 #[PV r p a h n, v] (.tuple #[PV r1 p1 a1 h1 n1, ii e])) (hE : Fn Try.prog G 14 #[PV r p a h n, v] (.tuple #[PV r1 p1 a1 h1 n1, ii e])) : Fn Try.prog G 4 #[PV r p a h n, v] (.bool true) := by
  refine fn1 (n := 29) Try.func4 rfl rfl (by simp) (argE [PV r p a h n, v] 0) (argE_ok _) ?_
  refine e_seq ?_
  refine e_plain ?_
  refine e_box 0 rfl rfl fun r1 => ?_
  refine e_assign rfl rfl ?_
  refine e_nil ?_
  refine e_seq ?_
  refine e_plain ?_
  refine e_loadA (i := 0) und28 rfl siz28 rfl rfl (arrv_size _ _) rfl ⟨[], trivial⟩ ?_
  refine e_move rfl rfl ?_
  refine e_call rfl ent13 hD rfl rfl ?_
  refine e_move rfl rfl ?_
  refine e_extract rfl rfl rfl ?_
  refine e_extract rfl rfl rfl ?_
  refine e_alloc 1 zer28 rfl fun r2 => ?_
  refine e_storeA (i := 1) siz28 rfl rfl (arrv_size _ _) (cells_one ⟨fun _ => rfl, fun _ => rfl, fun _ => rfl, fun _ => rfl, fun _ => rfl, trivial⟩) rfl cells_sz (.inl rfl) ?_
  refine e_assign rfl rfl ?_
  refine e_nil ?_
  refine e_seq ?_
  refine e_plain ?_
  refine e_loadA (i := 0) und28 rfl siz28 rfl rfl (arrv_size _ _) rfl ⟨[], trivial⟩ ?_
  refine e_move rfl rfl ?_
  refine e_call rfl ent14 hE rfl rfl ?_
  refine e_move rfl rfl ?_
  refine e_extract rfl rfl rfl ?_
  refine e_extract rfl rfl rfl ?_
  refine e_alloc 2 zer28 rfl fun r3 => ?_
  refine e_storeA (i := 2) siz28 rfl rfl (arrv_size _ _) (cells_one ⟨fun _ => rfl, fun _ => rfl, fun _ => rfl, fun _ => rfl, fun _ => rfl, trivial⟩) rfl cells_sz (.inl rfl) ?_
  refine e_assign rfl rfl ?_
  refine e_nil ?_
  refine e_seq ?_
  refine e_plain ?_
  refine e_loadA (i := 1) und28 rfl siz28 rfl rfl (arrv_size _ _) rfl ⟨[], trivial⟩ ?_
  refine e_loadA (i := 2) und28 rfl siz28 rfl rfl (arrv_size _ _) rfl ⟨[], trivial⟩ ?_
  refine e_eqSame sam28 eqg28 rfl rfl rfl ?_
  refine e_move rfl rfl ?_
  refine e_yes rfl rfl rfl ?_
  refine e_move rfl rfl ?_
  refine e_yes rfl rfl rfl ?_
  refine e_move rfl rfl ?_
  refine e_yes rfl rfl rfl ?_
  refine e_eq rfl rfl rfl ?_
  refine e_as (congrArg Value.bool (decide_eq_true rfl)) ?_
  refine e_pickT rfl rfl rfl rfl ?_
  refine e_assign rfl rfl ?_
  refine e_nil ?_
  refine e_ret ?_
  exact ⟨_, rfl, .tmp rfl⟩

set_option maxHeartbeats 2000000 in
theorem polyEnds_fn (r p a h : Nat → Nat) (n : Int) (g : Nat → Nat) (e : Nat) (hD : Fn Try.prog G 15 #[PV r p a h n] (.tuple #[.agg (arr .u8 16 g), ii e])) (hE : Fn Try.prog G 16 #[PV r p a h n] (.tuple #[.agg (arr .u8 16 g), ii e])) : Fn Try.prog G 5 #[PV r p a h n] (.bool true) := by
  refine fn1 (n := 25) Try.func5 rfl rfl (by simp) (argE [PV r p a h n] 0) (argE_ok _) ?_
  refine e_seq ?_
  refine e_plain ?_
  refine e_box 0 rfl rfl fun r1 => ?_
  refine e_assign rfl rfl ?_
  refine e_nil ?_
  refine e_seq ?_
  refine e_plain ?_
  refine e_loadA (i := 0) und28 rfl siz28 rfl rfl (arrv_size _ _) rfl ⟨[], trivial⟩ ?_
  refine e_call rfl ent15 hD rfl rfl ?_
  refine e_move rfl rfl ?_
  refine e_extract rfl rfl rfl ?_
  refine e_extract rfl rfl rfl ?_
  refine e_alloc 1 zer26 rfl fun r2 => ?_
  refine e_storeA (i := 1) siz26 rfl rfl (arr_size _ _ _) arr_one rfl (arr_sz _ _ _ _ _) (.inl rfl) ?_
  refine e_assign rfl rfl ?_
  refine e_nil ?_
  refine e_seq ?_
  refine e_plain ?_
  refine e_loadA (i := 0) und28 rfl siz28 rfl rfl (arrv_size _ _) rfl ⟨[], trivial⟩ ?_
  refine e_call rfl ent16 hE rfl rfl ?_
  refine e_move rfl rfl ?_
  refine e_extract rfl rfl rfl ?_
  refine e_extract rfl rfl rfl ?_
  refine e_alloc 2 zer26 rfl fun r3 => ?_
  refine e_storeA (i := 2) siz26 rfl rfl (arr_size _ _ _) arr_one rfl (arr_sz _ _ _ _ _) (.inl rfl) ?_
  refine e_assign rfl rfl ?_
  refine e_nil ?_
  refine e_seq ?_
  refine e_plain ?_
  refine e_loadA (i := 1) und26 rfl siz26 rfl rfl (arr_size _ _ _) rfl ⟨[], trivial⟩ ?_
  refine e_loadA (i := 2) und26 rfl siz26 rfl rfl (arr_size _ _ _) rfl ⟨[], trivial⟩ ?_
  refine e_eqA und26 und5 siz5 eqg26 rfl rfl rfl ?_
  refine e_as (congrArg Value.bool (allEq_iff.2 (fun _ _ => rfl))) ?_
  refine e_move rfl rfl ?_
  refine e_yes rfl rfl rfl ?_
  refine e_move rfl rfl ?_
  refine e_yes rfl rfl rfl ?_
  refine e_move rfl rfl ?_
  refine e_yes rfl rfl rfl ?_
  refine e_eq rfl rfl rfl ?_
  refine e_as (congrArg Value.bool (decide_eq_true rfl)) ?_
  refine e_pickT rfl rfl rfl rfl ?_
  refine e_assign rfl rfl ?_
  refine e_nil ?_
  refine e_ret ?_
  exact ⟨_, rfl, .tmp rfl⟩

end Go.Proofs.Ytmnmhmpklknleaa
