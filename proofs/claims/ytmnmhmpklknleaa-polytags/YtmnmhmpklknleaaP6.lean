/-
  Walks, written by a program of ours off the loaded functions.
-/
import Derived.Test.YtmnmhmpklknleaaP5
import Derived.Test.YtmnmhmpklknleaaPol2
namespace Go.Proofs.Ytmnmhmpklknleaa
open Go Go.RowKit


theorem ent11 : enters Try.prog 11 = true := by kernel_rfl
theorem ent24 : enters Try.prog 24 = true := by kernel_rfl
theorem eqg24 : Try.prog.eqGuardType Try.prog.depth 24 = false := by kernel_rfl
theorem eqg25 : Try.prog.eqGuardType Try.prog.depth 25 = false := by kernel_rfl
theorem siz46 : (Try.prog.info? 46).map (·.size) = some 32 := by kernel_rfl
theorem und3 : Try.prog.underlying 3 = some (.int .i64) := by kernel_rfl
theorem zer46 : (Try.prog.info? 46).bind (·.zero) = some (.agg (arr .u8 32 fun _ => 0)) := by kernel_rfl

variable {G : Mem}

set_option maxHeartbeats 4000000 in
theorem fault_fn (r p a h : Nat → Nat) (n : Int) (ha0 : a 0 < 18446744073709551616) (ha1 : a 1 < 18446744073709551616) (hr0 : r 0 < 18446744073709551616) (hr1 : r 1 < 18446744073709551616) : Fn Try.prog G 12 #[PV r p a h n] (ii (if (okcd r a n && okh n h 16) = true then 0 else 9)) := by
  refine fn1 (n := 71) Try.func12 rfl rfl (by simp) (argE [PV r p a h n] 0) (argE_ok _) ?_
  refine e_seq ?_
  refine e_plain ?_
  refine e_box 0 rfl rfl fun r1 => ?_
  refine e_assign rfl rfl ?_
  refine e_nil ?_
  refine e_seq ?_
  refine e_plain ?_
  refine e_build0 zer46 und46 sis5 rfl ?_
  refine e_alloc 1 zer46 rfl fun r2 => ?_
  refine e_storeA (i := 1) siz46 rfl rfl (arr_size _ _ _) arr_one rfl (arr_sz _ _ _ _ _) (.inl rfl) ?_
  refine e_nil ?_
  refine e_seq ?_
  refine e_draw mixed (by kernel_rfl) ?_
  refine e_sliceA 0 32 und46 siz5 rfl rfl rfl rfl rfl (by omega) (by omega) (by omega) rfl ?_
  refine e_fld (0) und28 rfl siz24 rfl rfl rfl ?_
  refine e_index0 (j := 0) und24 siz23 rfl rfl (by omega) rfl ?_
  refine e_ldI (i := 0) 0 (0) und23 rfl rfl rfl rfl rfl (by decide) (by decide) rfl ⟨[], trivial⟩ ?_
  refine e_call rfl ent24 (low_fn (r 0) 8 hr0 (by decide)) rfl rfl ?_
  refine e_fld (0) und28 rfl siz24 rfl rfl rfl ?_
  refine e_index0 (j := 1) und24 siz23 rfl rfl (by omega) rfl ?_
  refine e_ldI (i := 0) 0 (1) und23 rfl rfl rfl rfl rfl (by decide) (by decide) rfl ⟨[], trivial⟩ ?_
  refine e_call rfl ent24 (low_fn (r 1) 8 hr1 (by decide)) rfl rfl ?_
  refine e_catS rfl rfl rfl (by simp [lowl_len]) ?_
  refine e_as (show _ = sv (lw r) from rfl) ?_
  refine e_copyStr (i := 1) und33 siz5 rfl rfl (lw_lt r) rfl (by omega) rfl ?_
  refine e_nil ?_
  refine e_seq ?_
  rcases okcases r a n with hk0 | ⟨hk0, hk1⟩ | ⟨hk0, hk1, hk2⟩ | ⟨hk0, hk1, hk2, hk3⟩ | ⟨hk0, hk1, hk2, hk3, hk4⟩ | ⟨hk0, hk1, hk2, hk3, hk4⟩
  · skip
    refine e_draw mixed (by kernel_rfl) ?_
    refine e_loadA (i := 1) und46 rfl siz46 rfl rfl (arr_size _ _ _) rfl ⟨[], trivial⟩ ?_
    refine e_as (congrArg Value.agg (arr_congr (kq_copy r))) ?_
    refine e_call rfl ent11 (begun_fn (kq r) (kq_lt r)) rfl rfl ?_
    refine e_fieldC 0 und28 rfl und24 rfl siz24 rfl rfl rfl (by decide) rfl ?_
    refine e_fld (0) und28 rfl siz24 rfl rfl rfl ?_
    refine e_ldC (i := 0) 0 und24 rfl siz24 rfl rfl rfl (by decide) rfl ⟨[], trivial⟩ ?_
    refine e_eqA und24 und23 siz23 eqg24 rfl rfl rfl ?_
    refine e_as (congrArg Value.bool hk0) ?_
    refine e_move rfl rfl ?_
    refine e_no rfl rfl (by decide) rfl ?_
    refine e_no rfl rfl (by decide) rfl ?_
    refine e_no rfl rfl (by decide) rfl ?_
    refine e_pickF rfl rfl rfl rfl ?_
    refine e_move rfl rfl ?_
    refine e_no rfl rfl (by decide) rfl ?_
    refine e_no rfl rfl (by decide) rfl ?_
    refine e_no rfl rfl (by decide) rfl ?_
    refine e_pickF rfl rfl rfl rfl ?_
    refine e_move rfl rfl ?_
    refine e_no rfl rfl (by decide) rfl ?_
    refine e_no rfl rfl (by decide) rfl ?_
    refine e_no rfl rfl (by decide) rfl ?_
    refine e_no rfl rfl (by decide) rfl ?_
    refine e_pickF rfl rfl rfl rfl ?_
    refine e_move rfl rfl ?_
    refine e_no rfl rfl (by decide) rfl ?_
    refine e_no rfl rfl (by decide) rfl ?_
    refine e_no rfl rfl (by decide) rfl ?_
    refine e_no rfl rfl (by decide) rfl ?_
    refine e_no rfl rfl (by decide) rfl ?_
    refine e_no rfl rfl (by decide) rfl ?_
    refine e_no rfl rfl (by decide) rfl ?_
    refine e_no rfl rfl (by decide) rfl ?_
    refine e_pickF rfl rfl rfl rfl ?_
    refine e_as (congrArg Value.bool (show false = okcd r a n from okbase (.inl (hk0)))) ?_
    refine e_assign rfl rfl ?_
    refine e_nil ?_
    refine e_seq ?_
    refine e_seq ?_
    refine e_plain ?_
    refine e_fld (7) und28 rfl siz26 rfl rfl rfl ?_
    refine e_ldC (i := 0) 3 und26 rfl siz26 rfl rfl rfl (by decide) rfl ⟨[], trivial⟩ ?_
    refine e_move rfl rfl ?_
    refine e_nil ?_
    refine e_block ?_
    refine e_loop (fun kk E m => ∃ (i : Nat), kk = 16 - i ∧ E = [(1, ptr r1), (2, ii 0), (4, .bool (okcd r a n && okh n h i)), (52, .agg (arr .u8 16 h)), (53, ii i)] ∧ m = [(0, some ⟨r1, cells 24 [pI .u64 2 r, pI .u64 2 p, pI .u64 3 a, pI .u8 16 h, pV (.int .i64 n)], 28⟩), (1, some ⟨r2, arr .u8 32 (fun j => if 0 ≤ j ∧ j < 0 + min (lw r).length 32 then (lw r).getD (j - 0) 0 else 0), 46⟩)] ∧ (i ≤ 16)) [(1, ptr r1), (2, ii 0), (4, .bool (okcd r a n && okh n h 0)), (52, .agg (arr .u8 16 h)), (53, ii 0)] [(0, some ⟨r1, cells 24 [pI .u64 2 r, pI .u64 2 p, pI .u64 3 a, pI .u8 16 h, pV (.int .i64 n)], 28⟩), (1, some ⟨r2, arr .u8 32 (fun j => if 0 ≤ j ∧ j < 0 + min (lw r).length 32 then (lw r).getD (j - 0) 0 else 0), 46⟩)] (16 - 0) ⟨rfl, rfl, by rw [show okh n h 0 = true from rfl, Bool.and_true]; rfl, rfl, rfl, trivial⟩ ⟨rfl, rfl, trivial⟩ ⟨0, rfl, rfl, rfl, by omega⟩ ?_
    rintro kk E m ⟨i, rfl, rfl, rfl, hf0_0⟩
    refine e_seq ?_
    refine e_plain ?_
    refine e_lt rfl rfl rfl ?_
    refine e_nil ?_
    refine e_seq ?_
    refine e_cond rfl ?_ ?_
    · intro hc0
      have hc0 := of_decide_eq_true hc0
      refine e_skip ?_
      refine e_seq ?_
      refine e_block ?_
      refine e_seq ?_
      refine e_plain ?_
      refine e_move rfl rfl ?_
      refine e_idx und26 und5 siz5 rfl rfl (by omega) rfl ?_
      refine e_assign rfl rfl ?_
      refine e_assign rfl rfl ?_
      refine e_nil ?_
      rcases okcase2 (okcd r a n) n h i with hok | ⟨hok, hlt⟩ | ⟨hok, hlt⟩
      · skip
        refine e_plain ?_
        refine e_move rfl rfl ?_
        refine e_as (congrArg Value.bool hok) ?_
        refine e_move rfl rfl ?_
        refine e_no rfl rfl (by decide) rfl ?_
        refine e_no rfl rfl (by decide) rfl ?_
        refine e_no rfl rfl (by decide) rfl ?_
        refine e_no rfl rfl (by decide) rfl ?_
        refine e_no rfl rfl (by decide) rfl ?_
        refine e_no2 rfl rfl rfl ?_
        refine e_no2 rfl rfl rfl ?_
        refine e_no rfl rfl (by decide) rfl ?_
        refine e_pickF rfl rfl rfl rfl ?_
        refine e_as (congrArg Value.bool (okn_a hok)) ?_
        refine e_assign rfl rfl ?_
        refine e_nil ?_
        refine e_plain ?_
        refine e_add_i (q := 1) rfl rfl rfl (by omega) ?_
        refine e_move rfl rfl ?_
        refine e_nil ?_
        refine ⟨_, [(1, ptr r1), (2, ii 0), (4, .bool (okcd r a n && okh n h (i + 1))), (52, .agg (arr .u8 16 h)), (53, ii (i + 1))], [(0, some ⟨r1, cells 24 [pI .u64 2 r, pI .u64 2 p, pI .u64 3 a, pI .u8 16 h, pV (.int .i64 n)], 28⟩), (1, some ⟨r2, arr .u8 32 (fun j => if 0 ≤ j ∧ j < 0 + min (lw r).length 32 then (lw r).getD (j - 0) 0 else 0), 46⟩)], ?_, ⟨rfl, rfl, rfl, rfl, rfl, trivial⟩, ⟨rfl, rfl, trivial⟩, i + 1, rfl, rfl, rfl, by omega⟩
        omega
      · skip
        refine e_plain ?_
        refine e_move rfl rfl ?_
        refine e_as (congrArg Value.bool hok) ?_
        refine e_move rfl rfl ?_
        refine e_yes rfl rfl rfl ?_
        refine e_move rfl rfl ?_
        refine e_yes rfl rfl rfl ?_
        refine e_fld (23) und28 rfl siz3 rfl rfl rfl ?_
        refine e_yes rfl rfl rfl ?_
        refine e_ldV1 (i := 0) 4 und3 rfl rfl rfl rfl (by decide) rfl ⟨[], trivial⟩ ?_
        refine e_yes rfl rfl rfl ?_
        refine e_lt rfl rfl rfl ?_
        refine e_as (congrArg Value.bool (decide_eq_true hlt)) ?_
        refine e_yes rfl rfl rfl ?_
        refine e_move rfl rfl ?_
        refine e_no rfl rfl (by decide) rfl ?_
        refine e_no rfl rfl (by decide) rfl ?_
        refine e_yes rfl rfl rfl ?_
        refine e_pickT rfl rfl rfl rfl ?_
        refine e_pickT rfl rfl rfl rfl ?_
        refine e_as (congrArg Value.bool (okn_b hok hlt)) ?_
        refine e_assign rfl rfl ?_
        refine e_nil ?_
        refine e_plain ?_
        refine e_add_i (q := 1) rfl rfl rfl (by omega) ?_
        refine e_move rfl rfl ?_
        refine e_nil ?_
        refine ⟨_, [(1, ptr r1), (2, ii 0), (4, .bool (okcd r a n && okh n h (i + 1))), (52, .agg (arr .u8 16 h)), (53, ii (i + 1))], [(0, some ⟨r1, cells 24 [pI .u64 2 r, pI .u64 2 p, pI .u64 3 a, pI .u8 16 h, pV (.int .i64 n)], 28⟩), (1, some ⟨r2, arr .u8 32 (fun j => if 0 ≤ j ∧ j < 0 + min (lw r).length 32 then (lw r).getD (j - 0) 0 else 0), 46⟩)], ?_, ⟨rfl, rfl, rfl, rfl, rfl, trivial⟩, ⟨rfl, rfl, trivial⟩, i + 1, rfl, rfl, rfl, by omega⟩
        omega
      · skip
        refine e_plain ?_
        refine e_move rfl rfl ?_
        refine e_as (congrArg Value.bool hok) ?_
        refine e_move rfl rfl ?_
        refine e_yes rfl rfl rfl ?_
        refine e_move rfl rfl ?_
        refine e_yes rfl rfl rfl ?_
        refine e_fld (23) und28 rfl siz3 rfl rfl rfl ?_
        refine e_yes rfl rfl rfl ?_
        refine e_ldV1 (i := 0) 4 und3 rfl rfl rfl rfl (by decide) rfl ⟨[], trivial⟩ ?_
        refine e_yes rfl rfl rfl ?_
        refine e_lt rfl rfl rfl ?_
        refine e_as (congrArg Value.bool (decide_eq_false hlt)) ?_
        refine e_yes rfl rfl rfl ?_
        refine e_move rfl rfl ?_
        refine e_yes rfl rfl rfl ?_
        refine e_move rfl rfl ?_
        refine e_yes rfl rfl rfl ?_
        refine e_eq rfl rfl rfl ?_
        refine e_yes rfl rfl rfl ?_
        refine e_pickF rfl rfl rfl rfl ?_
        refine e_pickT rfl rfl rfl rfl ?_
        refine e_as (congrArg Value.bool (okn_c hok hlt)) ?_
        refine e_assign rfl rfl ?_
        refine e_nil ?_
        refine e_plain ?_
        refine e_add_i (q := 1) rfl rfl rfl (by omega) ?_
        refine e_move rfl rfl ?_
        refine e_nil ?_
        refine ⟨_, [(1, ptr r1), (2, ii 0), (4, .bool (okcd r a n && okh n h (i + 1))), (52, .agg (arr .u8 16 h)), (53, ii (i + 1))], [(0, some ⟨r1, cells 24 [pI .u64 2 r, pI .u64 2 p, pI .u64 3 a, pI .u8 16 h, pV (.int .i64 n)], 28⟩), (1, some ⟨r2, arr .u8 32 (fun j => if 0 ≤ j ∧ j < 0 + min (lw r).length 32 then (lw r).getD (j - 0) 0 else 0), 46⟩)], ?_, ⟨rfl, rfl, rfl, rfl, rfl, trivial⟩, ⟨rfl, rfl, trivial⟩, i + 1, rfl, rfl, rfl, by omega⟩
        omega
    · intro hc0
      have hc0 := of_decide_eq_false hc0
      have hi16 : i = 16 := by omega
      subst hi16
      refine e_exit ?_
      refine e_seq ?_
      refine e_seq ?_
      refine e_plain ?_
      refine e_move rfl rfl ?_
      refine e_not rfl rfl ?_
      refine e_nil ?_
      refine e_cond rfl ?_ ?_
      · intro hc1
        have hfin : ¬ (okcd r a n && okh n h 16) = true := fun hx => by rw [hx] at hc1; exact absurd hc1 (by decide)
        refine e_seq ?_
        refine e_plain ?_
        refine e_assign rfl rfl ?_
        refine e_nil ?_
        refine e_ret ?_
        first | rw [if_pos hfin] | rw [if_neg hfin]
        exact ⟨_, rfl, .tmp rfl⟩
      · intro hc1
        have hfin : (okcd r a n && okh n h 16) = true := by simpa using hc1
        refine e_skip ?_
        refine e_seq ?_
        refine e_plain ?_
        refine e_assign rfl rfl ?_
        refine e_nil ?_
        refine e_ret ?_
        first | rw [if_pos hfin] | rw [if_neg hfin]
        exact ⟨_, rfl, .tmp rfl⟩
  · skip
    refine e_draw mixed (by kernel_rfl) ?_
    refine e_loadA (i := 1) und46 rfl siz46 rfl rfl (arr_size _ _ _) rfl ⟨[], trivial⟩ ?_
    refine e_as (congrArg Value.agg (arr_congr (kq_copy r))) ?_
    refine e_call rfl ent11 (begun_fn (kq r) (kq_lt r)) rfl rfl ?_
    refine e_fieldC 0 und28 rfl und24 rfl siz24 rfl rfl rfl (by decide) rfl ?_
    refine e_fld (0) und28 rfl siz24 rfl rfl rfl ?_
    refine e_ldC (i := 0) 0 und24 rfl siz24 rfl rfl rfl (by decide) rfl ⟨[], trivial⟩ ?_
    refine e_eqA und24 und23 siz23 eqg24 rfl rfl rfl ?_
    refine e_as (congrArg Value.bool hk0) ?_
    refine e_move rfl rfl ?_
    refine e_yes rfl rfl rfl ?_
    refine e_fld (23) und28 rfl siz3 rfl rfl rfl ?_
    refine e_yes rfl rfl rfl ?_
    refine e_ldV1 (i := 0) 4 und3 rfl rfl rfl rfl (by decide) rfl ⟨[], trivial⟩ ?_
    refine e_yes rfl rfl rfl ?_
    refine e_ge rfl rfl rfl ?_
    refine e_as (congrArg Value.bool (decide_eq_false hk1)) ?_
    refine e_pickT rfl rfl rfl rfl ?_
    refine e_move rfl rfl ?_
    refine e_no rfl rfl (by decide) rfl ?_
    refine e_no rfl rfl (by decide) rfl ?_
    refine e_no rfl rfl (by decide) rfl ?_
    refine e_pickF rfl rfl rfl rfl ?_
    refine e_move rfl rfl ?_
    refine e_no rfl rfl (by decide) rfl ?_
    refine e_no rfl rfl (by decide) rfl ?_
    refine e_no rfl rfl (by decide) rfl ?_
    refine e_no rfl rfl (by decide) rfl ?_
    refine e_pickF rfl rfl rfl rfl ?_
    refine e_move rfl rfl ?_
    refine e_no rfl rfl (by decide) rfl ?_
    refine e_no rfl rfl (by decide) rfl ?_
    refine e_no rfl rfl (by decide) rfl ?_
    refine e_no rfl rfl (by decide) rfl ?_
    refine e_no rfl rfl (by decide) rfl ?_
    refine e_no rfl rfl (by decide) rfl ?_
    refine e_no rfl rfl (by decide) rfl ?_
    refine e_no rfl rfl (by decide) rfl ?_
    refine e_pickF rfl rfl rfl rfl ?_
    refine e_as (congrArg Value.bool (show false = okcd r a n from okbase (.inr (.inl (decide_eq_false hk1))))) ?_
    refine e_assign rfl rfl ?_
    refine e_nil ?_
    refine e_seq ?_
    refine e_seq ?_
    refine e_plain ?_
    refine e_fld (7) und28 rfl siz26 rfl rfl rfl ?_
    refine e_ldC (i := 0) 3 und26 rfl siz26 rfl rfl rfl (by decide) rfl ⟨[], trivial⟩ ?_
    refine e_move rfl rfl ?_
    refine e_nil ?_
    refine e_block ?_
    refine e_loop (fun kk E m => ∃ (i : Nat), kk = 16 - i ∧ E = [(1, ptr r1), (2, ii 0), (4, .bool (okcd r a n && okh n h i)), (52, .agg (arr .u8 16 h)), (53, ii i)] ∧ m = [(0, some ⟨r1, cells 24 [pI .u64 2 r, pI .u64 2 p, pI .u64 3 a, pI .u8 16 h, pV (.int .i64 n)], 28⟩), (1, some ⟨r2, arr .u8 32 (fun j => if 0 ≤ j ∧ j < 0 + min (lw r).length 32 then (lw r).getD (j - 0) 0 else 0), 46⟩)] ∧ (i ≤ 16)) [(1, ptr r1), (2, ii 0), (4, .bool (okcd r a n && okh n h 0)), (52, .agg (arr .u8 16 h)), (53, ii 0)] [(0, some ⟨r1, cells 24 [pI .u64 2 r, pI .u64 2 p, pI .u64 3 a, pI .u8 16 h, pV (.int .i64 n)], 28⟩), (1, some ⟨r2, arr .u8 32 (fun j => if 0 ≤ j ∧ j < 0 + min (lw r).length 32 then (lw r).getD (j - 0) 0 else 0), 46⟩)] (16 - 0) ⟨rfl, rfl, by rw [show okh n h 0 = true from rfl, Bool.and_true]; rfl, rfl, rfl, trivial⟩ ⟨rfl, rfl, trivial⟩ ⟨0, rfl, rfl, rfl, by omega⟩ ?_
    rintro kk E m ⟨i, rfl, rfl, rfl, hf0_0⟩
    refine e_seq ?_
    refine e_plain ?_
    refine e_lt rfl rfl rfl ?_
    refine e_nil ?_
    refine e_seq ?_
    refine e_cond rfl ?_ ?_
    · intro hc0
      have hc0 := of_decide_eq_true hc0
      refine e_skip ?_
      refine e_seq ?_
      refine e_block ?_
      refine e_seq ?_
      refine e_plain ?_
      refine e_move rfl rfl ?_
      refine e_idx und26 und5 siz5 rfl rfl (by omega) rfl ?_
      refine e_assign rfl rfl ?_
      refine e_assign rfl rfl ?_
      refine e_nil ?_
      rcases okcase2 (okcd r a n) n h i with hok | ⟨hok, hlt⟩ | ⟨hok, hlt⟩
      · skip
        refine e_plain ?_
        refine e_move rfl rfl ?_
        refine e_as (congrArg Value.bool hok) ?_
        refine e_move rfl rfl ?_
        refine e_no rfl rfl (by decide) rfl ?_
        refine e_no rfl rfl (by decide) rfl ?_
        refine e_no rfl rfl (by decide) rfl ?_
        refine e_no rfl rfl (by decide) rfl ?_
        refine e_no rfl rfl (by decide) rfl ?_
        refine e_no2 rfl rfl rfl ?_
        refine e_no2 rfl rfl rfl ?_
        refine e_no rfl rfl (by decide) rfl ?_
        refine e_pickF rfl rfl rfl rfl ?_
        refine e_as (congrArg Value.bool (okn_a hok)) ?_
        refine e_assign rfl rfl ?_
        refine e_nil ?_
        refine e_plain ?_
        refine e_add_i (q := 1) rfl rfl rfl (by omega) ?_
        refine e_move rfl rfl ?_
        refine e_nil ?_
        refine ⟨_, [(1, ptr r1), (2, ii 0), (4, .bool (okcd r a n && okh n h (i + 1))), (52, .agg (arr .u8 16 h)), (53, ii (i + 1))], [(0, some ⟨r1, cells 24 [pI .u64 2 r, pI .u64 2 p, pI .u64 3 a, pI .u8 16 h, pV (.int .i64 n)], 28⟩), (1, some ⟨r2, arr .u8 32 (fun j => if 0 ≤ j ∧ j < 0 + min (lw r).length 32 then (lw r).getD (j - 0) 0 else 0), 46⟩)], ?_, ⟨rfl, rfl, rfl, rfl, rfl, trivial⟩, ⟨rfl, rfl, trivial⟩, i + 1, rfl, rfl, rfl, by omega⟩
        omega
      · skip
        refine e_plain ?_
        refine e_move rfl rfl ?_
        refine e_as (congrArg Value.bool hok) ?_
        refine e_move rfl rfl ?_
        refine e_yes rfl rfl rfl ?_
        refine e_move rfl rfl ?_
        refine e_yes rfl rfl rfl ?_
        refine e_fld (23) und28 rfl siz3 rfl rfl rfl ?_
        refine e_yes rfl rfl rfl ?_
        refine e_ldV1 (i := 0) 4 und3 rfl rfl rfl rfl (by decide) rfl ⟨[], trivial⟩ ?_
        refine e_yes rfl rfl rfl ?_
        refine e_lt rfl rfl rfl ?_
        refine e_as (congrArg Value.bool (decide_eq_true hlt)) ?_
        refine e_yes rfl rfl rfl ?_
        refine e_move rfl rfl ?_
        refine e_no rfl rfl (by decide) rfl ?_
        refine e_no rfl rfl (by decide) rfl ?_
        refine e_yes rfl rfl rfl ?_
        refine e_pickT rfl rfl rfl rfl ?_
        refine e_pickT rfl rfl rfl rfl ?_
        refine e_as (congrArg Value.bool (okn_b hok hlt)) ?_
        refine e_assign rfl rfl ?_
        refine e_nil ?_
        refine e_plain ?_
        refine e_add_i (q := 1) rfl rfl rfl (by omega) ?_
        refine e_move rfl rfl ?_
        refine e_nil ?_
        refine ⟨_, [(1, ptr r1), (2, ii 0), (4, .bool (okcd r a n && okh n h (i + 1))), (52, .agg (arr .u8 16 h)), (53, ii (i + 1))], [(0, some ⟨r1, cells 24 [pI .u64 2 r, pI .u64 2 p, pI .u64 3 a, pI .u8 16 h, pV (.int .i64 n)], 28⟩), (1, some ⟨r2, arr .u8 32 (fun j => if 0 ≤ j ∧ j < 0 + min (lw r).length 32 then (lw r).getD (j - 0) 0 else 0), 46⟩)], ?_, ⟨rfl, rfl, rfl, rfl, rfl, trivial⟩, ⟨rfl, rfl, trivial⟩, i + 1, rfl, rfl, rfl, by omega⟩
        omega
      · skip
        refine e_plain ?_
        refine e_move rfl rfl ?_
        refine e_as (congrArg Value.bool hok) ?_
        refine e_move rfl rfl ?_
        refine e_yes rfl rfl rfl ?_
        refine e_move rfl rfl ?_
        refine e_yes rfl rfl rfl ?_
        refine e_fld (23) und28 rfl siz3 rfl rfl rfl ?_
        refine e_yes rfl rfl rfl ?_
        refine e_ldV1 (i := 0) 4 und3 rfl rfl rfl rfl (by decide) rfl ⟨[], trivial⟩ ?_
        refine e_yes rfl rfl rfl ?_
        refine e_lt rfl rfl rfl ?_
        refine e_as (congrArg Value.bool (decide_eq_false hlt)) ?_
        refine e_yes rfl rfl rfl ?_
        refine e_move rfl rfl ?_
        refine e_yes rfl rfl rfl ?_
        refine e_move rfl rfl ?_
        refine e_yes rfl rfl rfl ?_
        refine e_eq rfl rfl rfl ?_
        refine e_yes rfl rfl rfl ?_
        refine e_pickF rfl rfl rfl rfl ?_
        refine e_pickT rfl rfl rfl rfl ?_
        refine e_as (congrArg Value.bool (okn_c hok hlt)) ?_
        refine e_assign rfl rfl ?_
        refine e_nil ?_
        refine e_plain ?_
        refine e_add_i (q := 1) rfl rfl rfl (by omega) ?_
        refine e_move rfl rfl ?_
        refine e_nil ?_
        refine ⟨_, [(1, ptr r1), (2, ii 0), (4, .bool (okcd r a n && okh n h (i + 1))), (52, .agg (arr .u8 16 h)), (53, ii (i + 1))], [(0, some ⟨r1, cells 24 [pI .u64 2 r, pI .u64 2 p, pI .u64 3 a, pI .u8 16 h, pV (.int .i64 n)], 28⟩), (1, some ⟨r2, arr .u8 32 (fun j => if 0 ≤ j ∧ j < 0 + min (lw r).length 32 then (lw r).getD (j - 0) 0 else 0), 46⟩)], ?_, ⟨rfl, rfl, rfl, rfl, rfl, trivial⟩, ⟨rfl, rfl, trivial⟩, i + 1, rfl, rfl, rfl, by omega⟩
        omega
    · intro hc0
      have hc0 := of_decide_eq_false hc0
      have hi16 : i = 16 := by omega
      subst hi16
      refine e_exit ?_
      refine e_seq ?_
      refine e_seq ?_
      refine e_plain ?_
      refine e_move rfl rfl ?_
      refine e_not rfl rfl ?_
      refine e_nil ?_
      refine e_cond rfl ?_ ?_
      · intro hc1
        have hfin : ¬ (okcd r a n && okh n h 16) = true := fun hx => by rw [hx] at hc1; exact absurd hc1 (by decide)
        refine e_seq ?_
        refine e_plain ?_
        refine e_assign rfl rfl ?_
        refine e_nil ?_
        refine e_ret ?_
        first | rw [if_pos hfin] | rw [if_neg hfin]
        exact ⟨_, rfl, .tmp rfl⟩
      · intro hc1
        have hfin : (okcd r a n && okh n h 16) = true := by simpa using hc1
        refine e_skip ?_
        refine e_seq ?_
        refine e_plain ?_
        refine e_assign rfl rfl ?_
        refine e_nil ?_
        refine e_ret ?_
        first | rw [if_pos hfin] | rw [if_neg hfin]
        exact ⟨_, rfl, .tmp rfl⟩
  · skip
    refine e_draw mixed (by kernel_rfl) ?_
    refine e_loadA (i := 1) und46 rfl siz46 rfl rfl (arr_size _ _ _) rfl ⟨[], trivial⟩ ?_
    refine e_as (congrArg Value.agg (arr_congr (kq_copy r))) ?_
    refine e_call rfl ent11 (begun_fn (kq r) (kq_lt r)) rfl rfl ?_
    refine e_fieldC 0 und28 rfl und24 rfl siz24 rfl rfl rfl (by decide) rfl ?_
    refine e_fld (0) und28 rfl siz24 rfl rfl rfl ?_
    refine e_ldC (i := 0) 0 und24 rfl siz24 rfl rfl rfl (by decide) rfl ⟨[], trivial⟩ ?_
    refine e_eqA und24 und23 siz23 eqg24 rfl rfl rfl ?_
    refine e_as (congrArg Value.bool hk0) ?_
    refine e_move rfl rfl ?_
    refine e_yes rfl rfl rfl ?_
    refine e_fld (23) und28 rfl siz3 rfl rfl rfl ?_
    refine e_yes rfl rfl rfl ?_
    refine e_ldV1 (i := 0) 4 und3 rfl rfl rfl rfl (by decide) rfl ⟨[], trivial⟩ ?_
    refine e_yes rfl rfl rfl ?_
    refine e_ge rfl rfl rfl ?_
    refine e_as (congrArg Value.bool (decide_eq_true hk1)) ?_
    refine e_pickT rfl rfl rfl rfl ?_
    refine e_move rfl rfl ?_
    refine e_yes rfl rfl rfl ?_
    refine e_fld (23) und28 rfl siz3 rfl rfl rfl ?_
    refine e_yes rfl rfl rfl ?_
    refine e_ldV1 (i := 0) 4 und3 rfl rfl rfl rfl (by decide) rfl ⟨[], trivial⟩ ?_
    refine e_yes rfl rfl rfl ?_
    refine e_lt rfl rfl rfl ?_
    refine e_as (congrArg Value.bool (decide_eq_false hk2)) ?_
    refine e_pickT rfl rfl rfl rfl ?_
    refine e_move rfl rfl ?_
    refine e_no rfl rfl (by decide) rfl ?_
    refine e_no rfl rfl (by decide) rfl ?_
    refine e_no rfl rfl (by decide) rfl ?_
    refine e_no rfl rfl (by decide) rfl ?_
    refine e_pickF rfl rfl rfl rfl ?_
    refine e_move rfl rfl ?_
    refine e_no rfl rfl (by decide) rfl ?_
    refine e_no rfl rfl (by decide) rfl ?_
    refine e_no rfl rfl (by decide) rfl ?_
    refine e_no rfl rfl (by decide) rfl ?_
    refine e_no rfl rfl (by decide) rfl ?_
    refine e_no rfl rfl (by decide) rfl ?_
    refine e_no rfl rfl (by decide) rfl ?_
    refine e_no rfl rfl (by decide) rfl ?_
    refine e_pickF rfl rfl rfl rfl ?_
    refine e_as (congrArg Value.bool (show false = okcd r a n from okbase (.inr (.inr (.inl (decide_eq_false hk2)))))) ?_
    refine e_assign rfl rfl ?_
    refine e_nil ?_
    refine e_seq ?_
    refine e_seq ?_
    refine e_plain ?_
    refine e_fld (7) und28 rfl siz26 rfl rfl rfl ?_
    refine e_ldC (i := 0) 3 und26 rfl siz26 rfl rfl rfl (by decide) rfl ⟨[], trivial⟩ ?_
    refine e_move rfl rfl ?_
    refine e_nil ?_
    refine e_block ?_
    refine e_loop (fun kk E m => ∃ (i : Nat), kk = 16 - i ∧ E = [(1, ptr r1), (2, ii 0), (4, .bool (okcd r a n && okh n h i)), (52, .agg (arr .u8 16 h)), (53, ii i)] ∧ m = [(0, some ⟨r1, cells 24 [pI .u64 2 r, pI .u64 2 p, pI .u64 3 a, pI .u8 16 h, pV (.int .i64 n)], 28⟩), (1, some ⟨r2, arr .u8 32 (fun j => if 0 ≤ j ∧ j < 0 + min (lw r).length 32 then (lw r).getD (j - 0) 0 else 0), 46⟩)] ∧ (i ≤ 16)) [(1, ptr r1), (2, ii 0), (4, .bool (okcd r a n && okh n h 0)), (52, .agg (arr .u8 16 h)), (53, ii 0)] [(0, some ⟨r1, cells 24 [pI .u64 2 r, pI .u64 2 p, pI .u64 3 a, pI .u8 16 h, pV (.int .i64 n)], 28⟩), (1, some ⟨r2, arr .u8 32 (fun j => if 0 ≤ j ∧ j < 0 + min (lw r).length 32 then (lw r).getD (j - 0) 0 else 0), 46⟩)] (16 - 0) ⟨rfl, rfl, by rw [show okh n h 0 = true from rfl, Bool.and_true]; rfl, rfl, rfl, trivial⟩ ⟨rfl, rfl, trivial⟩ ⟨0, rfl, rfl, rfl, by omega⟩ ?_
    rintro kk E m ⟨i, rfl, rfl, rfl, hf0_0⟩
    refine e_seq ?_
    refine e_plain ?_
    refine e_lt rfl rfl rfl ?_
    refine e_nil ?_
    refine e_seq ?_
    refine e_cond rfl ?_ ?_
    · intro hc0
      have hc0 := of_decide_eq_true hc0
      refine e_skip ?_
      refine e_seq ?_
      refine e_block ?_
      refine e_seq ?_
      refine e_plain ?_
      refine e_move rfl rfl ?_
      refine e_idx und26 und5 siz5 rfl rfl (by omega) rfl ?_
      refine e_assign rfl rfl ?_
      refine e_assign rfl rfl ?_
      refine e_nil ?_
      rcases okcase2 (okcd r a n) n h i with hok | ⟨hok, hlt⟩ | ⟨hok, hlt⟩
      · skip
        refine e_plain ?_
        refine e_move rfl rfl ?_
        refine e_as (congrArg Value.bool hok) ?_
        refine e_move rfl rfl ?_
        refine e_no rfl rfl (by decide) rfl ?_
        refine e_no rfl rfl (by decide) rfl ?_
        refine e_no rfl rfl (by decide) rfl ?_
        refine e_no rfl rfl (by decide) rfl ?_
        refine e_no rfl rfl (by decide) rfl ?_
        refine e_no2 rfl rfl rfl ?_
        refine e_no2 rfl rfl rfl ?_
        refine e_no rfl rfl (by decide) rfl ?_
        refine e_pickF rfl rfl rfl rfl ?_
        refine e_as (congrArg Value.bool (okn_a hok)) ?_
        refine e_assign rfl rfl ?_
        refine e_nil ?_
        refine e_plain ?_
        refine e_add_i (q := 1) rfl rfl rfl (by omega) ?_
        refine e_move rfl rfl ?_
        refine e_nil ?_
        refine ⟨_, [(1, ptr r1), (2, ii 0), (4, .bool (okcd r a n && okh n h (i + 1))), (52, .agg (arr .u8 16 h)), (53, ii (i + 1))], [(0, some ⟨r1, cells 24 [pI .u64 2 r, pI .u64 2 p, pI .u64 3 a, pI .u8 16 h, pV (.int .i64 n)], 28⟩), (1, some ⟨r2, arr .u8 32 (fun j => if 0 ≤ j ∧ j < 0 + min (lw r).length 32 then (lw r).getD (j - 0) 0 else 0), 46⟩)], ?_, ⟨rfl, rfl, rfl, rfl, rfl, trivial⟩, ⟨rfl, rfl, trivial⟩, i + 1, rfl, rfl, rfl, by omega⟩
        omega
      · skip
        refine e_plain ?_
        refine e_move rfl rfl ?_
        refine e_as (congrArg Value.bool hok) ?_
        refine e_move rfl rfl ?_
        refine e_yes rfl rfl rfl ?_
        refine e_move rfl rfl ?_
        refine e_yes rfl rfl rfl ?_
        refine e_fld (23) und28 rfl siz3 rfl rfl rfl ?_
        refine e_yes rfl rfl rfl ?_
        refine e_ldV1 (i := 0) 4 und3 rfl rfl rfl rfl (by decide) rfl ⟨[], trivial⟩ ?_
        refine e_yes rfl rfl rfl ?_
        refine e_lt rfl rfl rfl ?_
        refine e_as (congrArg Value.bool (decide_eq_true hlt)) ?_
        refine e_yes rfl rfl rfl ?_
        refine e_move rfl rfl ?_
        refine e_no rfl rfl (by decide) rfl ?_
        refine e_no rfl rfl (by decide) rfl ?_
        refine e_yes rfl rfl rfl ?_
        refine e_pickT rfl rfl rfl rfl ?_
        refine e_pickT rfl rfl rfl rfl ?_
        refine e_as (congrArg Value.bool (okn_b hok hlt)) ?_
        refine e_assign rfl rfl ?_
        refine e_nil ?_
        refine e_plain ?_
        refine e_add_i (q := 1) rfl rfl rfl (by omega) ?_
        refine e_move rfl rfl ?_
        refine e_nil ?_
        refine ⟨_, [(1, ptr r1), (2, ii 0), (4, .bool (okcd r a n && okh n h (i + 1))), (52, .agg (arr .u8 16 h)), (53, ii (i + 1))], [(0, some ⟨r1, cells 24 [pI .u64 2 r, pI .u64 2 p, pI .u64 3 a, pI .u8 16 h, pV (.int .i64 n)], 28⟩), (1, some ⟨r2, arr .u8 32 (fun j => if 0 ≤ j ∧ j < 0 + min (lw r).length 32 then (lw r).getD (j - 0) 0 else 0), 46⟩)], ?_, ⟨rfl, rfl, rfl, rfl, rfl, trivial⟩, ⟨rfl, rfl, trivial⟩, i + 1, rfl, rfl, rfl, by omega⟩
        omega
      · skip
        refine e_plain ?_
        refine e_move rfl rfl ?_
        refine e_as (congrArg Value.bool hok) ?_
        refine e_move rfl rfl ?_
        refine e_yes rfl rfl rfl ?_
        refine e_move rfl rfl ?_
        refine e_yes rfl rfl rfl ?_
        refine e_fld (23) und28 rfl siz3 rfl rfl rfl ?_
        refine e_yes rfl rfl rfl ?_
        refine e_ldV1 (i := 0) 4 und3 rfl rfl rfl rfl (by decide) rfl ⟨[], trivial⟩ ?_
        refine e_yes rfl rfl rfl ?_
        refine e_lt rfl rfl rfl ?_
        refine e_as (congrArg Value.bool (decide_eq_false hlt)) ?_
        refine e_yes rfl rfl rfl ?_
        refine e_move rfl rfl ?_
        refine e_yes rfl rfl rfl ?_
        refine e_move rfl rfl ?_
        refine e_yes rfl rfl rfl ?_
        refine e_eq rfl rfl rfl ?_
        refine e_yes rfl rfl rfl ?_
        refine e_pickF rfl rfl rfl rfl ?_
        refine e_pickT rfl rfl rfl rfl ?_
        refine e_as (congrArg Value.bool (okn_c hok hlt)) ?_
        refine e_assign rfl rfl ?_
        refine e_nil ?_
        refine e_plain ?_
        refine e_add_i (q := 1) rfl rfl rfl (by omega) ?_
        refine e_move rfl rfl ?_
        refine e_nil ?_
        refine ⟨_, [(1, ptr r1), (2, ii 0), (4, .bool (okcd r a n && okh n h (i + 1))), (52, .agg (arr .u8 16 h)), (53, ii (i + 1))], [(0, some ⟨r1, cells 24 [pI .u64 2 r, pI .u64 2 p, pI .u64 3 a, pI .u8 16 h, pV (.int .i64 n)], 28⟩), (1, some ⟨r2, arr .u8 32 (fun j => if 0 ≤ j ∧ j < 0 + min (lw r).length 32 then (lw r).getD (j - 0) 0 else 0), 46⟩)], ?_, ⟨rfl, rfl, rfl, rfl, rfl, trivial⟩, ⟨rfl, rfl, trivial⟩, i + 1, rfl, rfl, rfl, by omega⟩
        omega
    · intro hc0
      have hc0 := of_decide_eq_false hc0
      have hi16 : i = 16 := by omega
      subst hi16
      refine e_exit ?_
      refine e_seq ?_
      refine e_seq ?_
      refine e_plain ?_
      refine e_move rfl rfl ?_
      refine e_not rfl rfl ?_
      refine e_nil ?_
      refine e_cond rfl ?_ ?_
      · intro hc1
        have hfin : ¬ (okcd r a n && okh n h 16) = true := fun hx => by rw [hx] at hc1; exact absurd hc1 (by decide)
        refine e_seq ?_
        refine e_plain ?_
        refine e_assign rfl rfl ?_
        refine e_nil ?_
        refine e_ret ?_
        first | rw [if_pos hfin] | rw [if_neg hfin]
        exact ⟨_, rfl, .tmp rfl⟩
      · intro hc1
        have hfin : (okcd r a n && okh n h 16) = true := by simpa using hc1
        refine e_skip ?_
        refine e_seq ?_
        refine e_plain ?_
        refine e_assign rfl rfl ?_
        refine e_nil ?_
        refine e_ret ?_
        first | rw [if_pos hfin] | rw [if_neg hfin]
        exact ⟨_, rfl, .tmp rfl⟩
  · skip
    refine e_draw mixed (by kernel_rfl) ?_
    refine e_loadA (i := 1) und46 rfl siz46 rfl rfl (arr_size _ _ _) rfl ⟨[], trivial⟩ ?_
    refine e_as (congrArg Value.agg (arr_congr (kq_copy r))) ?_
    refine e_call rfl ent11 (begun_fn (kq r) (kq_lt r)) rfl rfl ?_
    refine e_fieldC 0 und28 rfl und24 rfl siz24 rfl rfl rfl (by decide) rfl ?_
    refine e_fld (0) und28 rfl siz24 rfl rfl rfl ?_
    refine e_ldC (i := 0) 0 und24 rfl siz24 rfl rfl rfl (by decide) rfl ⟨[], trivial⟩ ?_
    refine e_eqA und24 und23 siz23 eqg24 rfl rfl rfl ?_
    refine e_as (congrArg Value.bool hk0) ?_
    refine e_move rfl rfl ?_
    refine e_yes rfl rfl rfl ?_
    refine e_fld (23) und28 rfl siz3 rfl rfl rfl ?_
    refine e_yes rfl rfl rfl ?_
    refine e_ldV1 (i := 0) 4 und3 rfl rfl rfl rfl (by decide) rfl ⟨[], trivial⟩ ?_
    refine e_yes rfl rfl rfl ?_
    refine e_ge rfl rfl rfl ?_
    refine e_as (congrArg Value.bool (decide_eq_true hk1)) ?_
    refine e_pickT rfl rfl rfl rfl ?_
    refine e_move rfl rfl ?_
    refine e_yes rfl rfl rfl ?_
    refine e_fld (23) und28 rfl siz3 rfl rfl rfl ?_
    refine e_yes rfl rfl rfl ?_
    refine e_ldV1 (i := 0) 4 und3 rfl rfl rfl rfl (by decide) rfl ⟨[], trivial⟩ ?_
    refine e_yes rfl rfl rfl ?_
    refine e_lt rfl rfl rfl ?_
    refine e_as (congrArg Value.bool (decide_eq_true hk2)) ?_
    refine e_pickT rfl rfl rfl rfl ?_
    refine e_move rfl rfl ?_
    refine e_yes rfl rfl rfl ?_
    refine e_fld (4) und28 rfl siz25 rfl rfl rfl ?_
    refine e_yes rfl rfl rfl ?_
    refine e_at (6) (j := 2) und25 siz23 rfl rfl (by omega) (by omega) rfl ?_
    refine e_yes rfl rfl rfl ?_
    refine e_ldI (i := 0) 2 (2) und23 rfl rfl rfl rfl rfl (by decide) (by decide) rfl ⟨[], trivial⟩ ?_
    refine e_yes rfl rfl rfl ?_
    refine e_lt rfl rfl rfl ?_
    refine e_as (congrArg Value.bool (decide_eq_false (by omega))) ?_
    refine e_pickT rfl rfl rfl rfl ?_
    refine e_move rfl rfl ?_
    refine e_no rfl rfl (by decide) rfl ?_
    refine e_no rfl rfl (by decide) rfl ?_
    refine e_no rfl rfl (by decide) rfl ?_
    refine e_no rfl rfl (by decide) rfl ?_
    refine e_no rfl rfl (by decide) rfl ?_
    refine e_no rfl rfl (by decide) rfl ?_
    refine e_no rfl rfl (by decide) rfl ?_
    refine e_no rfl rfl (by decide) rfl ?_
    refine e_pickF rfl rfl rfl rfl ?_
    refine e_as (congrArg Value.bool (show false = okcd r a n from okbase (.inr (.inr (.inr (.inl (decide_eq_false hk3))))))) ?_
    refine e_assign rfl rfl ?_
    refine e_nil ?_
    refine e_seq ?_
    refine e_seq ?_
    refine e_plain ?_
    refine e_fld (7) und28 rfl siz26 rfl rfl rfl ?_
    refine e_ldC (i := 0) 3 und26 rfl siz26 rfl rfl rfl (by decide) rfl ⟨[], trivial⟩ ?_
    refine e_move rfl rfl ?_
    refine e_nil ?_
    refine e_block ?_
    refine e_loop (fun kk E m => ∃ (i : Nat), kk = 16 - i ∧ E = [(1, ptr r1), (2, ii 0), (4, .bool (okcd r a n && okh n h i)), (52, .agg (arr .u8 16 h)), (53, ii i)] ∧ m = [(0, some ⟨r1, cells 24 [pI .u64 2 r, pI .u64 2 p, pI .u64 3 a, pI .u8 16 h, pV (.int .i64 n)], 28⟩), (1, some ⟨r2, arr .u8 32 (fun j => if 0 ≤ j ∧ j < 0 + min (lw r).length 32 then (lw r).getD (j - 0) 0 else 0), 46⟩)] ∧ (i ≤ 16)) [(1, ptr r1), (2, ii 0), (4, .bool (okcd r a n && okh n h 0)), (52, .agg (arr .u8 16 h)), (53, ii 0)] [(0, some ⟨r1, cells 24 [pI .u64 2 r, pI .u64 2 p, pI .u64 3 a, pI .u8 16 h, pV (.int .i64 n)], 28⟩), (1, some ⟨r2, arr .u8 32 (fun j => if 0 ≤ j ∧ j < 0 + min (lw r).length 32 then (lw r).getD (j - 0) 0 else 0), 46⟩)] (16 - 0) ⟨rfl, rfl, by rw [show okh n h 0 = true from rfl, Bool.and_true]; rfl, rfl, rfl, trivial⟩ ⟨rfl, rfl, trivial⟩ ⟨0, rfl, rfl, rfl, by omega⟩ ?_
    rintro kk E m ⟨i, rfl, rfl, rfl, hf0_0⟩
    refine e_seq ?_
    refine e_plain ?_
    refine e_lt rfl rfl rfl ?_
    refine e_nil ?_
    refine e_seq ?_
    refine e_cond rfl ?_ ?_
    · intro hc0
      have hc0 := of_decide_eq_true hc0
      refine e_skip ?_
      refine e_seq ?_
      refine e_block ?_
      refine e_seq ?_
      refine e_plain ?_
      refine e_move rfl rfl ?_
      refine e_idx und26 und5 siz5 rfl rfl (by omega) rfl ?_
      refine e_assign rfl rfl ?_
      refine e_assign rfl rfl ?_
      refine e_nil ?_
      rcases okcase2 (okcd r a n) n h i with hok | ⟨hok, hlt⟩ | ⟨hok, hlt⟩
      · skip
        refine e_plain ?_
        refine e_move rfl rfl ?_
        refine e_as (congrArg Value.bool hok) ?_
        refine e_move rfl rfl ?_
        refine e_no rfl rfl (by decide) rfl ?_
        refine e_no rfl rfl (by decide) rfl ?_
        refine e_no rfl rfl (by decide) rfl ?_
        refine e_no rfl rfl (by decide) rfl ?_
        refine e_no rfl rfl (by decide) rfl ?_
        refine e_no2 rfl rfl rfl ?_
        refine e_no2 rfl rfl rfl ?_
        refine e_no rfl rfl (by decide) rfl ?_
        refine e_pickF rfl rfl rfl rfl ?_
        refine e_as (congrArg Value.bool (okn_a hok)) ?_
        refine e_assign rfl rfl ?_
        refine e_nil ?_
        refine e_plain ?_
        refine e_add_i (q := 1) rfl rfl rfl (by omega) ?_
        refine e_move rfl rfl ?_
        refine e_nil ?_
        refine ⟨_, [(1, ptr r1), (2, ii 0), (4, .bool (okcd r a n && okh n h (i + 1))), (52, .agg (arr .u8 16 h)), (53, ii (i + 1))], [(0, some ⟨r1, cells 24 [pI .u64 2 r, pI .u64 2 p, pI .u64 3 a, pI .u8 16 h, pV (.int .i64 n)], 28⟩), (1, some ⟨r2, arr .u8 32 (fun j => if 0 ≤ j ∧ j < 0 + min (lw r).length 32 then (lw r).getD (j - 0) 0 else 0), 46⟩)], ?_, ⟨rfl, rfl, rfl, rfl, rfl, trivial⟩, ⟨rfl, rfl, trivial⟩, i + 1, rfl, rfl, rfl, by omega⟩
        omega
      · skip
        refine e_plain ?_
        refine e_move rfl rfl ?_
        refine e_as (congrArg Value.bool hok) ?_
        refine e_move rfl rfl ?_
        refine e_yes rfl rfl rfl ?_
        refine e_move rfl rfl ?_
        refine e_yes rfl rfl rfl ?_
        refine e_fld (23) und28 rfl siz3 rfl rfl rfl ?_
        refine e_yes rfl rfl rfl ?_
        refine e_ldV1 (i := 0) 4 und3 rfl rfl rfl rfl (by decide) rfl ⟨[], trivial⟩ ?_
        refine e_yes rfl rfl rfl ?_
        refine e_lt rfl rfl rfl ?_
        refine e_as (congrArg Value.bool (decide_eq_true hlt)) ?_
        refine e_yes rfl rfl rfl ?_
        refine e_move rfl rfl ?_
        refine e_no rfl rfl (by decide) rfl ?_
        refine e_no rfl rfl (by decide) rfl ?_
        refine e_yes rfl rfl rfl ?_
        refine e_pickT rfl rfl rfl rfl ?_
        refine e_pickT rfl rfl rfl rfl ?_
        refine e_as (congrArg Value.bool (okn_b hok hlt)) ?_
        refine e_assign rfl rfl ?_
        refine e_nil ?_
        refine e_plain ?_
        refine e_add_i (q := 1) rfl rfl rfl (by omega) ?_
        refine e_move rfl rfl ?_
        refine e_nil ?_
        refine ⟨_, [(1, ptr r1), (2, ii 0), (4, .bool (okcd r a n && okh n h (i + 1))), (52, .agg (arr .u8 16 h)), (53, ii (i + 1))], [(0, some ⟨r1, cells 24 [pI .u64 2 r, pI .u64 2 p, pI .u64 3 a, pI .u8 16 h, pV (.int .i64 n)], 28⟩), (1, some ⟨r2, arr .u8 32 (fun j => if 0 ≤ j ∧ j < 0 + min (lw r).length 32 then (lw r).getD (j - 0) 0 else 0), 46⟩)], ?_, ⟨rfl, rfl, rfl, rfl, rfl, trivial⟩, ⟨rfl, rfl, trivial⟩, i + 1, rfl, rfl, rfl, by omega⟩
        omega
      · skip
        refine e_plain ?_
        refine e_move rfl rfl ?_
        refine e_as (congrArg Value.bool hok) ?_
        refine e_move rfl rfl ?_
        refine e_yes rfl rfl rfl ?_
        refine e_move rfl rfl ?_
        refine e_yes rfl rfl rfl ?_
        refine e_fld (23) und28 rfl siz3 rfl rfl rfl ?_
        refine e_yes rfl rfl rfl ?_
        refine e_ldV1 (i := 0) 4 und3 rfl rfl rfl rfl (by decide) rfl ⟨[], trivial⟩ ?_
        refine e_yes rfl rfl rfl ?_
        refine e_lt rfl rfl rfl ?_
        refine e_as (congrArg Value.bool (decide_eq_false hlt)) ?_
        refine e_yes rfl rfl rfl ?_
        refine e_move rfl rfl ?_
        refine e_yes rfl rfl rfl ?_
        refine e_move rfl rfl ?_
        refine e_yes rfl rfl rfl ?_
        refine e_eq rfl rfl rfl ?_
        refine e_yes rfl rfl rfl ?_
        refine e_pickF rfl rfl rfl rfl ?_
        refine e_pickT rfl rfl rfl rfl ?_
        refine e_as (congrArg Value.bool (okn_c hok hlt)) ?_
        refine e_assign rfl rfl ?_
        refine e_nil ?_
        refine e_plain ?_
        refine e_add_i (q := 1) rfl rfl rfl (by omega) ?_
        refine e_move rfl rfl ?_
        refine e_nil ?_
        refine ⟨_, [(1, ptr r1), (2, ii 0), (4, .bool (okcd r a n && okh n h (i + 1))), (52, .agg (arr .u8 16 h)), (53, ii (i + 1))], [(0, some ⟨r1, cells 24 [pI .u64 2 r, pI .u64 2 p, pI .u64 3 a, pI .u8 16 h, pV (.int .i64 n)], 28⟩), (1, some ⟨r2, arr .u8 32 (fun j => if 0 ≤ j ∧ j < 0 + min (lw r).length 32 then (lw r).getD (j - 0) 0 else 0), 46⟩)], ?_, ⟨rfl, rfl, rfl, rfl, rfl, trivial⟩, ⟨rfl, rfl, trivial⟩, i + 1, rfl, rfl, rfl, by omega⟩
        omega
    · intro hc0
      have hc0 := of_decide_eq_false hc0
      have hi16 : i = 16 := by omega
      subst hi16
      refine e_exit ?_
      refine e_seq ?_
      refine e_seq ?_
      refine e_plain ?_
      refine e_move rfl rfl ?_
      refine e_not rfl rfl ?_
      refine e_nil ?_
      refine e_cond rfl ?_ ?_
      · intro hc1
        have hfin : ¬ (okcd r a n && okh n h 16) = true := fun hx => by rw [hx] at hc1; exact absurd hc1 (by decide)
        refine e_seq ?_
        refine e_plain ?_
        refine e_assign rfl rfl ?_
        refine e_nil ?_
        refine e_ret ?_
        first | rw [if_pos hfin] | rw [if_neg hfin]
        exact ⟨_, rfl, .tmp rfl⟩
      · intro hc1
        have hfin : (okcd r a n && okh n h 16) = true := by simpa using hc1
        refine e_skip ?_
        refine e_seq ?_
        refine e_plain ?_
        refine e_assign rfl rfl ?_
        refine e_nil ?_
        refine e_ret ?_
        first | rw [if_pos hfin] | rw [if_neg hfin]
        exact ⟨_, rfl, .tmp rfl⟩
  · skip
    refine e_draw mixed (by kernel_rfl) ?_
    refine e_loadA (i := 1) und46 rfl siz46 rfl rfl (arr_size _ _ _) rfl ⟨[], trivial⟩ ?_
    refine e_as (congrArg Value.agg (arr_congr (kq_copy r))) ?_
    refine e_call rfl ent11 (begun_fn (kq r) (kq_lt r)) rfl rfl ?_
    refine e_fieldC 0 und28 rfl und24 rfl siz24 rfl rfl rfl (by decide) rfl ?_
    refine e_fld (0) und28 rfl siz24 rfl rfl rfl ?_
    refine e_ldC (i := 0) 0 und24 rfl siz24 rfl rfl rfl (by decide) rfl ⟨[], trivial⟩ ?_
    refine e_eqA und24 und23 siz23 eqg24 rfl rfl rfl ?_
    refine e_as (congrArg Value.bool hk0) ?_
    refine e_move rfl rfl ?_
    refine e_yes rfl rfl rfl ?_
    refine e_fld (23) und28 rfl siz3 rfl rfl rfl ?_
    refine e_yes rfl rfl rfl ?_
    refine e_ldV1 (i := 0) 4 und3 rfl rfl rfl rfl (by decide) rfl ⟨[], trivial⟩ ?_
    refine e_yes rfl rfl rfl ?_
    refine e_ge rfl rfl rfl ?_
    refine e_as (congrArg Value.bool (decide_eq_true hk1)) ?_
    refine e_pickT rfl rfl rfl rfl ?_
    refine e_move rfl rfl ?_
    refine e_yes rfl rfl rfl ?_
    refine e_fld (23) und28 rfl siz3 rfl rfl rfl ?_
    refine e_yes rfl rfl rfl ?_
    refine e_ldV1 (i := 0) 4 und3 rfl rfl rfl rfl (by decide) rfl ⟨[], trivial⟩ ?_
    refine e_yes rfl rfl rfl ?_
    refine e_lt rfl rfl rfl ?_
    refine e_as (congrArg Value.bool (decide_eq_true hk2)) ?_
    refine e_pickT rfl rfl rfl rfl ?_
    refine e_move rfl rfl ?_
    refine e_yes rfl rfl rfl ?_
    refine e_fld (4) und28 rfl siz25 rfl rfl rfl ?_
    refine e_yes rfl rfl rfl ?_
    refine e_at (6) (j := 2) und25 siz23 rfl rfl (by omega) (by omega) rfl ?_
    refine e_yes rfl rfl rfl ?_
    refine e_ldI (i := 0) 2 (2) und23 rfl rfl rfl rfl rfl (by decide) (by decide) rfl ⟨[], trivial⟩ ?_
    refine e_yes rfl rfl rfl ?_
    refine e_lt rfl rfl rfl ?_
    refine e_as (congrArg Value.bool (decide_eq_true (by omega))) ?_
    refine e_pickT rfl rfl rfl rfl ?_
    refine e_move rfl rfl ?_
    refine e_yes rfl rfl rfl ?_
    refine e_fld (4) und28 rfl siz25 rfl rfl rfl ?_
    refine e_yes rfl rfl rfl ?_
    refine e_ldC (i := 0) 2 und25 rfl siz25 rfl rfl rfl (by decide) rfl ⟨[], trivial⟩ ?_
    refine e_yes rfl rfl rfl ?_
    refine e_call rfl ent25 (partsOf_fn a ha0 ha1 hk3) rfl rfl ?_
    refine e_yes rfl rfl rfl ?_
    refine e_call rfl ent26 (carried_fn _ (fun j _ => Nat.lt_trans (d26_lt _ j) (by decide))) rfl rfl ?_
    refine e_as (congrArg (fun z => p5 (z % QQ)) (self26 (w3_lt ha0 ha1 hk3))) ?_
    refine e_yes rfl rfl rfl ?_
    refine e_call rfl ent27 (whole_fn _ (mod_lt30 _)) rfl rfl ?_
    refine e_yes rfl rfl rfl ?_
    refine e_fld (4) und28 rfl siz25 rfl rfl rfl ?_
    refine e_yes rfl rfl rfl ?_
    refine e_ldC (i := 0) 2 und25 rfl siz25 rfl rfl rfl (by decide) rfl ⟨[], trivial⟩ ?_
    refine e_yes rfl rfl rfl ?_
    refine e_eqA und25 und23 siz23 eqg25 rfl rfl rfl ?_
    refine e_as (congrArg Value.bool hk4) ?_
    refine e_pickT rfl rfl rfl rfl ?_
    refine e_as (congrArg Value.bool (show false = okcd r a n from okbase (.inr (.inr (.inr (.inr (hk4))))))) ?_
    refine e_assign rfl rfl ?_
    refine e_nil ?_
    refine e_seq ?_
    refine e_seq ?_
    refine e_plain ?_
    refine e_fld (7) und28 rfl siz26 rfl rfl rfl ?_
    refine e_ldC (i := 0) 3 und26 rfl siz26 rfl rfl rfl (by decide) rfl ⟨[], trivial⟩ ?_
    refine e_move rfl rfl ?_
    refine e_nil ?_
    refine e_block ?_
    refine e_loop (fun kk E m => ∃ (i : Nat), kk = 16 - i ∧ E = [(1, ptr r1), (2, ii 0), (4, .bool (okcd r a n && okh n h i)), (52, .agg (arr .u8 16 h)), (53, ii i)] ∧ m = [(0, some ⟨r1, cells 24 [pI .u64 2 r, pI .u64 2 p, pI .u64 3 a, pI .u8 16 h, pV (.int .i64 n)], 28⟩), (1, some ⟨r2, arr .u8 32 (fun j => if 0 ≤ j ∧ j < 0 + min (lw r).length 32 then (lw r).getD (j - 0) 0 else 0), 46⟩)] ∧ (i ≤ 16)) [(1, ptr r1), (2, ii 0), (4, .bool (okcd r a n && okh n h 0)), (52, .agg (arr .u8 16 h)), (53, ii 0)] [(0, some ⟨r1, cells 24 [pI .u64 2 r, pI .u64 2 p, pI .u64 3 a, pI .u8 16 h, pV (.int .i64 n)], 28⟩), (1, some ⟨r2, arr .u8 32 (fun j => if 0 ≤ j ∧ j < 0 + min (lw r).length 32 then (lw r).getD (j - 0) 0 else 0), 46⟩)] (16 - 0) ⟨rfl, rfl, by rw [show okh n h 0 = true from rfl, Bool.and_true]; rfl, rfl, rfl, trivial⟩ ⟨rfl, rfl, trivial⟩ ⟨0, rfl, rfl, rfl, by omega⟩ ?_
    rintro kk E m ⟨i, rfl, rfl, rfl, hf0_0⟩
    refine e_seq ?_
    refine e_plain ?_
    refine e_lt rfl rfl rfl ?_
    refine e_nil ?_
    refine e_seq ?_
    refine e_cond rfl ?_ ?_
    · intro hc0
      have hc0 := of_decide_eq_true hc0
      refine e_skip ?_
      refine e_seq ?_
      refine e_block ?_
      refine e_seq ?_
      refine e_plain ?_
      refine e_move rfl rfl ?_
      refine e_idx und26 und5 siz5 rfl rfl (by omega) rfl ?_
      refine e_assign rfl rfl ?_
      refine e_assign rfl rfl ?_
      refine e_nil ?_
      rcases okcase2 (okcd r a n) n h i with hok | ⟨hok, hlt⟩ | ⟨hok, hlt⟩
      · skip
        refine e_plain ?_
        refine e_move rfl rfl ?_
        refine e_as (congrArg Value.bool hok) ?_
        refine e_move rfl rfl ?_
        refine e_no rfl rfl (by decide) rfl ?_
        refine e_no rfl rfl (by decide) rfl ?_
        refine e_no rfl rfl (by decide) rfl ?_
        refine e_no rfl rfl (by decide) rfl ?_
        refine e_no rfl rfl (by decide) rfl ?_
        refine e_no2 rfl rfl rfl ?_
        refine e_no2 rfl rfl rfl ?_
        refine e_no rfl rfl (by decide) rfl ?_
        refine e_pickF rfl rfl rfl rfl ?_
        refine e_as (congrArg Value.bool (okn_a hok)) ?_
        refine e_assign rfl rfl ?_
        refine e_nil ?_
        refine e_plain ?_
        refine e_add_i (q := 1) rfl rfl rfl (by omega) ?_
        refine e_move rfl rfl ?_
        refine e_nil ?_
        refine ⟨_, [(1, ptr r1), (2, ii 0), (4, .bool (okcd r a n && okh n h (i + 1))), (52, .agg (arr .u8 16 h)), (53, ii (i + 1))], [(0, some ⟨r1, cells 24 [pI .u64 2 r, pI .u64 2 p, pI .u64 3 a, pI .u8 16 h, pV (.int .i64 n)], 28⟩), (1, some ⟨r2, arr .u8 32 (fun j => if 0 ≤ j ∧ j < 0 + min (lw r).length 32 then (lw r).getD (j - 0) 0 else 0), 46⟩)], ?_, ⟨rfl, rfl, rfl, rfl, rfl, trivial⟩, ⟨rfl, rfl, trivial⟩, i + 1, rfl, rfl, rfl, by omega⟩
        omega
      · skip
        refine e_plain ?_
        refine e_move rfl rfl ?_
        refine e_as (congrArg Value.bool hok) ?_
        refine e_move rfl rfl ?_
        refine e_yes rfl rfl rfl ?_
        refine e_move rfl rfl ?_
        refine e_yes rfl rfl rfl ?_
        refine e_fld (23) und28 rfl siz3 rfl rfl rfl ?_
        refine e_yes rfl rfl rfl ?_
        refine e_ldV1 (i := 0) 4 und3 rfl rfl rfl rfl (by decide) rfl ⟨[], trivial⟩ ?_
        refine e_yes rfl rfl rfl ?_
        refine e_lt rfl rfl rfl ?_
        refine e_as (congrArg Value.bool (decide_eq_true hlt)) ?_
        refine e_yes rfl rfl rfl ?_
        refine e_move rfl rfl ?_
        refine e_no rfl rfl (by decide) rfl ?_
        refine e_no rfl rfl (by decide) rfl ?_
        refine e_yes rfl rfl rfl ?_
        refine e_pickT rfl rfl rfl rfl ?_
        refine e_pickT rfl rfl rfl rfl ?_
        refine e_as (congrArg Value.bool (okn_b hok hlt)) ?_
        refine e_assign rfl rfl ?_
        refine e_nil ?_
        refine e_plain ?_
        refine e_add_i (q := 1) rfl rfl rfl (by omega) ?_
        refine e_move rfl rfl ?_
        refine e_nil ?_
        refine ⟨_, [(1, ptr r1), (2, ii 0), (4, .bool (okcd r a n && okh n h (i + 1))), (52, .agg (arr .u8 16 h)), (53, ii (i + 1))], [(0, some ⟨r1, cells 24 [pI .u64 2 r, pI .u64 2 p, pI .u64 3 a, pI .u8 16 h, pV (.int .i64 n)], 28⟩), (1, some ⟨r2, arr .u8 32 (fun j => if 0 ≤ j ∧ j < 0 + min (lw r).length 32 then (lw r).getD (j - 0) 0 else 0), 46⟩)], ?_, ⟨rfl, rfl, rfl, rfl, rfl, trivial⟩, ⟨rfl, rfl, trivial⟩, i + 1, rfl, rfl, rfl, by omega⟩
        omega
      · skip
        refine e_plain ?_
        refine e_move rfl rfl ?_
        refine e_as (congrArg Value.bool hok) ?_
        refine e_move rfl rfl ?_
        refine e_yes rfl rfl rfl ?_
        refine e_move rfl rfl ?_
        refine e_yes rfl rfl rfl ?_
        refine e_fld (23) und28 rfl siz3 rfl rfl rfl ?_
        refine e_yes rfl rfl rfl ?_
        refine e_ldV1 (i := 0) 4 und3 rfl rfl rfl rfl (by decide) rfl ⟨[], trivial⟩ ?_
        refine e_yes rfl rfl rfl ?_
        refine e_lt rfl rfl rfl ?_
        refine e_as (congrArg Value.bool (decide_eq_false hlt)) ?_
        refine e_yes rfl rfl rfl ?_
        refine e_move rfl rfl ?_
        refine e_yes rfl rfl rfl ?_
        refine e_move rfl rfl ?_
        refine e_yes rfl rfl rfl ?_
        refine e_eq rfl rfl rfl ?_
        refine e_yes rfl rfl rfl ?_
        refine e_pickF rfl rfl rfl rfl ?_
        refine e_pickT rfl rfl rfl rfl ?_
        refine e_as (congrArg Value.bool (okn_c hok hlt)) ?_
        refine e_assign rfl rfl ?_
        refine e_nil ?_
        refine e_plain ?_
        refine e_add_i (q := 1) rfl rfl rfl (by omega) ?_
        refine e_move rfl rfl ?_
        refine e_nil ?_
        refine ⟨_, [(1, ptr r1), (2, ii 0), (4, .bool (okcd r a n && okh n h (i + 1))), (52, .agg (arr .u8 16 h)), (53, ii (i + 1))], [(0, some ⟨r1, cells 24 [pI .u64 2 r, pI .u64 2 p, pI .u64 3 a, pI .u8 16 h, pV (.int .i64 n)], 28⟩), (1, some ⟨r2, arr .u8 32 (fun j => if 0 ≤ j ∧ j < 0 + min (lw r).length 32 then (lw r).getD (j - 0) 0 else 0), 46⟩)], ?_, ⟨rfl, rfl, rfl, rfl, rfl, trivial⟩, ⟨rfl, rfl, trivial⟩, i + 1, rfl, rfl, rfl, by omega⟩
        omega
    · intro hc0
      have hc0 := of_decide_eq_false hc0
      have hi16 : i = 16 := by omega
      subst hi16
      refine e_exit ?_
      refine e_seq ?_
      refine e_seq ?_
      refine e_plain ?_
      refine e_move rfl rfl ?_
      refine e_not rfl rfl ?_
      refine e_nil ?_
      refine e_cond rfl ?_ ?_
      · intro hc1
        have hfin : ¬ (okcd r a n && okh n h 16) = true := fun hx => by rw [hx] at hc1; exact absurd hc1 (by decide)
        refine e_seq ?_
        refine e_plain ?_
        refine e_assign rfl rfl ?_
        refine e_nil ?_
        refine e_ret ?_
        first | rw [if_pos hfin] | rw [if_neg hfin]
        exact ⟨_, rfl, .tmp rfl⟩
      · intro hc1
        have hfin : (okcd r a n && okh n h 16) = true := by simpa using hc1
        refine e_skip ?_
        refine e_seq ?_
        refine e_plain ?_
        refine e_assign rfl rfl ?_
        refine e_nil ?_
        refine e_ret ?_
        first | rw [if_pos hfin] | rw [if_neg hfin]
        exact ⟨_, rfl, .tmp rfl⟩
  · skip
    refine e_draw mixed (by kernel_rfl) ?_
    refine e_loadA (i := 1) und46 rfl siz46 rfl rfl (arr_size _ _ _) rfl ⟨[], trivial⟩ ?_
    refine e_as (congrArg Value.agg (arr_congr (kq_copy r))) ?_
    refine e_call rfl ent11 (begun_fn (kq r) (kq_lt r)) rfl rfl ?_
    refine e_fieldC 0 und28 rfl und24 rfl siz24 rfl rfl rfl (by decide) rfl ?_
    refine e_fld (0) und28 rfl siz24 rfl rfl rfl ?_
    refine e_ldC (i := 0) 0 und24 rfl siz24 rfl rfl rfl (by decide) rfl ⟨[], trivial⟩ ?_
    refine e_eqA und24 und23 siz23 eqg24 rfl rfl rfl ?_
    refine e_as (congrArg Value.bool hk0) ?_
    refine e_move rfl rfl ?_
    refine e_yes rfl rfl rfl ?_
    refine e_fld (23) und28 rfl siz3 rfl rfl rfl ?_
    refine e_yes rfl rfl rfl ?_
    refine e_ldV1 (i := 0) 4 und3 rfl rfl rfl rfl (by decide) rfl ⟨[], trivial⟩ ?_
    refine e_yes rfl rfl rfl ?_
    refine e_ge rfl rfl rfl ?_
    refine e_as (congrArg Value.bool (decide_eq_true hk1)) ?_
    refine e_pickT rfl rfl rfl rfl ?_
    refine e_move rfl rfl ?_
    refine e_yes rfl rfl rfl ?_
    refine e_fld (23) und28 rfl siz3 rfl rfl rfl ?_
    refine e_yes rfl rfl rfl ?_
    refine e_ldV1 (i := 0) 4 und3 rfl rfl rfl rfl (by decide) rfl ⟨[], trivial⟩ ?_
    refine e_yes rfl rfl rfl ?_
    refine e_lt rfl rfl rfl ?_
    refine e_as (congrArg Value.bool (decide_eq_true hk2)) ?_
    refine e_pickT rfl rfl rfl rfl ?_
    refine e_move rfl rfl ?_
    refine e_yes rfl rfl rfl ?_
    refine e_fld (4) und28 rfl siz25 rfl rfl rfl ?_
    refine e_yes rfl rfl rfl ?_
    refine e_at (6) (j := 2) und25 siz23 rfl rfl (by omega) (by omega) rfl ?_
    refine e_yes rfl rfl rfl ?_
    refine e_ldI (i := 0) 2 (2) und23 rfl rfl rfl rfl rfl (by decide) (by decide) rfl ⟨[], trivial⟩ ?_
    refine e_yes rfl rfl rfl ?_
    refine e_lt rfl rfl rfl ?_
    refine e_as (congrArg Value.bool (decide_eq_true (by omega))) ?_
    refine e_pickT rfl rfl rfl rfl ?_
    refine e_move rfl rfl ?_
    refine e_yes rfl rfl rfl ?_
    refine e_fld (4) und28 rfl siz25 rfl rfl rfl ?_
    refine e_yes rfl rfl rfl ?_
    refine e_ldC (i := 0) 2 und25 rfl siz25 rfl rfl rfl (by decide) rfl ⟨[], trivial⟩ ?_
    refine e_yes rfl rfl rfl ?_
    refine e_call rfl ent25 (partsOf_fn a ha0 ha1 hk3) rfl rfl ?_
    refine e_yes rfl rfl rfl ?_
    refine e_call rfl ent26 (carried_fn _ (fun j _ => Nat.lt_trans (d26_lt _ j) (by decide))) rfl rfl ?_
    refine e_as (congrArg (fun z => p5 (z % QQ)) (self26 (w3_lt ha0 ha1 hk3))) ?_
    refine e_yes rfl rfl rfl ?_
    refine e_call rfl ent27 (whole_fn _ (mod_lt30 _)) rfl rfl ?_
    refine e_yes rfl rfl rfl ?_
    refine e_fld (4) und28 rfl siz25 rfl rfl rfl ?_
    refine e_yes rfl rfl rfl ?_
    refine e_ldC (i := 0) 2 und25 rfl siz25 rfl rfl rfl (by decide) rfl ⟨[], trivial⟩ ?_
    refine e_yes rfl rfl rfl ?_
    refine e_eqA und25 und23 siz23 eqg25 rfl rfl rfl ?_
    refine e_as (congrArg Value.bool hk4) ?_
    refine e_pickT rfl rfl rfl rfl ?_
    refine e_as (congrArg Value.bool (ok_all hk0 hk1 hk2 hk3 hk4)) ?_
    refine e_assign rfl rfl ?_
    refine e_nil ?_
    refine e_seq ?_
    refine e_seq ?_
    refine e_plain ?_
    refine e_fld (7) und28 rfl siz26 rfl rfl rfl ?_
    refine e_ldC (i := 0) 3 und26 rfl siz26 rfl rfl rfl (by decide) rfl ⟨[], trivial⟩ ?_
    refine e_move rfl rfl ?_
    refine e_nil ?_
    refine e_block ?_
    refine e_loop (fun kk E m => ∃ (i : Nat), kk = 16 - i ∧ E = [(1, ptr r1), (2, ii 0), (4, .bool (okcd r a n && okh n h i)), (52, .agg (arr .u8 16 h)), (53, ii i)] ∧ m = [(0, some ⟨r1, cells 24 [pI .u64 2 r, pI .u64 2 p, pI .u64 3 a, pI .u8 16 h, pV (.int .i64 n)], 28⟩), (1, some ⟨r2, arr .u8 32 (fun j => if 0 ≤ j ∧ j < 0 + min (lw r).length 32 then (lw r).getD (j - 0) 0 else 0), 46⟩)] ∧ (i ≤ 16)) [(1, ptr r1), (2, ii 0), (4, .bool (okcd r a n && okh n h 0)), (52, .agg (arr .u8 16 h)), (53, ii 0)] [(0, some ⟨r1, cells 24 [pI .u64 2 r, pI .u64 2 p, pI .u64 3 a, pI .u8 16 h, pV (.int .i64 n)], 28⟩), (1, some ⟨r2, arr .u8 32 (fun j => if 0 ≤ j ∧ j < 0 + min (lw r).length 32 then (lw r).getD (j - 0) 0 else 0), 46⟩)] (16 - 0) ⟨rfl, rfl, by rw [show okh n h 0 = true from rfl, Bool.and_true]; rfl, rfl, rfl, trivial⟩ ⟨rfl, rfl, trivial⟩ ⟨0, rfl, rfl, rfl, by omega⟩ ?_
    rintro kk E m ⟨i, rfl, rfl, rfl, hf0_0⟩
    refine e_seq ?_
    refine e_plain ?_
    refine e_lt rfl rfl rfl ?_
    refine e_nil ?_
    refine e_seq ?_
    refine e_cond rfl ?_ ?_
    · intro hc0
      have hc0 := of_decide_eq_true hc0
      refine e_skip ?_
      refine e_seq ?_
      refine e_block ?_
      refine e_seq ?_
      refine e_plain ?_
      refine e_move rfl rfl ?_
      refine e_idx und26 und5 siz5 rfl rfl (by omega) rfl ?_
      refine e_assign rfl rfl ?_
      refine e_assign rfl rfl ?_
      refine e_nil ?_
      rcases okcase2 (okcd r a n) n h i with hok | ⟨hok, hlt⟩ | ⟨hok, hlt⟩
      · skip
        refine e_plain ?_
        refine e_move rfl rfl ?_
        refine e_as (congrArg Value.bool hok) ?_
        refine e_move rfl rfl ?_
        refine e_no rfl rfl (by decide) rfl ?_
        refine e_no rfl rfl (by decide) rfl ?_
        refine e_no rfl rfl (by decide) rfl ?_
        refine e_no rfl rfl (by decide) rfl ?_
        refine e_no rfl rfl (by decide) rfl ?_
        refine e_no2 rfl rfl rfl ?_
        refine e_no2 rfl rfl rfl ?_
        refine e_no rfl rfl (by decide) rfl ?_
        refine e_pickF rfl rfl rfl rfl ?_
        refine e_as (congrArg Value.bool (okn_a hok)) ?_
        refine e_assign rfl rfl ?_
        refine e_nil ?_
        refine e_plain ?_
        refine e_add_i (q := 1) rfl rfl rfl (by omega) ?_
        refine e_move rfl rfl ?_
        refine e_nil ?_
        refine ⟨_, [(1, ptr r1), (2, ii 0), (4, .bool (okcd r a n && okh n h (i + 1))), (52, .agg (arr .u8 16 h)), (53, ii (i + 1))], [(0, some ⟨r1, cells 24 [pI .u64 2 r, pI .u64 2 p, pI .u64 3 a, pI .u8 16 h, pV (.int .i64 n)], 28⟩), (1, some ⟨r2, arr .u8 32 (fun j => if 0 ≤ j ∧ j < 0 + min (lw r).length 32 then (lw r).getD (j - 0) 0 else 0), 46⟩)], ?_, ⟨rfl, rfl, rfl, rfl, rfl, trivial⟩, ⟨rfl, rfl, trivial⟩, i + 1, rfl, rfl, rfl, by omega⟩
        omega
      · skip
        refine e_plain ?_
        refine e_move rfl rfl ?_
        refine e_as (congrArg Value.bool hok) ?_
        refine e_move rfl rfl ?_
        refine e_yes rfl rfl rfl ?_
        refine e_move rfl rfl ?_
        refine e_yes rfl rfl rfl ?_
        refine e_fld (23) und28 rfl siz3 rfl rfl rfl ?_
        refine e_yes rfl rfl rfl ?_
        refine e_ldV1 (i := 0) 4 und3 rfl rfl rfl rfl (by decide) rfl ⟨[], trivial⟩ ?_
        refine e_yes rfl rfl rfl ?_
        refine e_lt rfl rfl rfl ?_
        refine e_as (congrArg Value.bool (decide_eq_true hlt)) ?_
        refine e_yes rfl rfl rfl ?_
        refine e_move rfl rfl ?_
        refine e_no rfl rfl (by decide) rfl ?_
        refine e_no rfl rfl (by decide) rfl ?_
        refine e_yes rfl rfl rfl ?_
        refine e_pickT rfl rfl rfl rfl ?_
        refine e_pickT rfl rfl rfl rfl ?_
        refine e_as (congrArg Value.bool (okn_b hok hlt)) ?_
        refine e_assign rfl rfl ?_
        refine e_nil ?_
        refine e_plain ?_
        refine e_add_i (q := 1) rfl rfl rfl (by omega) ?_
        refine e_move rfl rfl ?_
        refine e_nil ?_
        refine ⟨_, [(1, ptr r1), (2, ii 0), (4, .bool (okcd r a n && okh n h (i + 1))), (52, .agg (arr .u8 16 h)), (53, ii (i + 1))], [(0, some ⟨r1, cells 24 [pI .u64 2 r, pI .u64 2 p, pI .u64 3 a, pI .u8 16 h, pV (.int .i64 n)], 28⟩), (1, some ⟨r2, arr .u8 32 (fun j => if 0 ≤ j ∧ j < 0 + min (lw r).length 32 then (lw r).getD (j - 0) 0 else 0), 46⟩)], ?_, ⟨rfl, rfl, rfl, rfl, rfl, trivial⟩, ⟨rfl, rfl, trivial⟩, i + 1, rfl, rfl, rfl, by omega⟩
        omega
      · skip
        refine e_plain ?_
        refine e_move rfl rfl ?_
        refine e_as (congrArg Value.bool hok) ?_
        refine e_move rfl rfl ?_
        refine e_yes rfl rfl rfl ?_
        refine e_move rfl rfl ?_
        refine e_yes rfl rfl rfl ?_
        refine e_fld (23) und28 rfl siz3 rfl rfl rfl ?_
        refine e_yes rfl rfl rfl ?_
        refine e_ldV1 (i := 0) 4 und3 rfl rfl rfl rfl (by decide) rfl ⟨[], trivial⟩ ?_
        refine e_yes rfl rfl rfl ?_
        refine e_lt rfl rfl rfl ?_
        refine e_as (congrArg Value.bool (decide_eq_false hlt)) ?_
        refine e_yes rfl rfl rfl ?_
        refine e_move rfl rfl ?_
        refine e_yes rfl rfl rfl ?_
        refine e_move rfl rfl ?_
        refine e_yes rfl rfl rfl ?_
        refine e_eq rfl rfl rfl ?_
        refine e_yes rfl rfl rfl ?_
        refine e_pickF rfl rfl rfl rfl ?_
        refine e_pickT rfl rfl rfl rfl ?_
        refine e_as (congrArg Value.bool (okn_c hok hlt)) ?_
        refine e_assign rfl rfl ?_
        refine e_nil ?_
        refine e_plain ?_
        refine e_add_i (q := 1) rfl rfl rfl (by omega) ?_
        refine e_move rfl rfl ?_
        refine e_nil ?_
        refine ⟨_, [(1, ptr r1), (2, ii 0), (4, .bool (okcd r a n && okh n h (i + 1))), (52, .agg (arr .u8 16 h)), (53, ii (i + 1))], [(0, some ⟨r1, cells 24 [pI .u64 2 r, pI .u64 2 p, pI .u64 3 a, pI .u8 16 h, pV (.int .i64 n)], 28⟩), (1, some ⟨r2, arr .u8 32 (fun j => if 0 ≤ j ∧ j < 0 + min (lw r).length 32 then (lw r).getD (j - 0) 0 else 0), 46⟩)], ?_, ⟨rfl, rfl, rfl, rfl, rfl, trivial⟩, ⟨rfl, rfl, trivial⟩, i + 1, rfl, rfl, rfl, by omega⟩
        omega
    · intro hc0
      have hc0 := of_decide_eq_false hc0
      have hi16 : i = 16 := by omega
      subst hi16
      refine e_exit ?_
      refine e_seq ?_
      refine e_seq ?_
      refine e_plain ?_
      refine e_move rfl rfl ?_
      refine e_not rfl rfl ?_
      refine e_nil ?_
      refine e_cond rfl ?_ ?_
      · intro hc1
        have hfin : ¬ (okcd r a n && okh n h 16) = true := fun hx => by rw [hx] at hc1; exact absurd hc1 (by decide)
        refine e_seq ?_
        refine e_plain ?_
        refine e_assign rfl rfl ?_
        refine e_nil ?_
        refine e_ret ?_
        first | rw [if_pos hfin] | rw [if_neg hfin]
        exact ⟨_, rfl, .tmp rfl⟩
      · intro hc1
        have hfin : (okcd r a n && okh n h 16) = true := by simpa using hc1
        refine e_skip ?_
        refine e_seq ?_
        refine e_plain ?_
        refine e_assign rfl rfl ?_
        refine e_nil ?_
        refine e_ret ?_
        first | rw [if_pos hfin] | rw [if_neg hfin]
        exact ⟨_, rfl, .tmp rfl⟩

end Go.Proofs.Ytmnmhmpklknleaa
