import Derived.Test.YtoalabpbohkcjaaK4

/-
  Walks, written by a program of ours off the loaded functions.
-/
namespace Go.Proofs.Ytoalabpbohkcjaa
open Go Go.RowKit


theorem ent41 : enters Try.prog 41 = true := by kernel_rfl
theorem eqg58 : Try.prog.eqGuardType Try.prog.depth 58 = false := by kernel_rfl
theorem eqg59 : Try.prog.eqGuardType Try.prog.depth 59 = false := by kernel_rfl
theorem zer36 : (Try.prog.info? 36).bind (·.zero) = some (.agg (arr .u8 32 fun _ => 0)) := by kernel_rfl

variable {G : Mem}

set_option maxHeartbeats 4000000 in
theorem fault_fn (r p a h : Nat → Nat) (n : Int) (ha0 : a 0 < 18446744073709551616) (ha1 : a 1 < 18446744073709551616) (hr0 : r 0 < 18446744073709551616) (hr1 : r 1 < 18446744073709551616) : Fn Try.prog G 53 #[PV r p a h n] (ii (if (okcd r a n && okh n h 16) = true then 0 else 9)) := by
  refine fn1 (n := 71) Try.func53 rfl rfl (by simp) (argE [PV r p a h n] 0) (argE_ok _) ?_
  refine e_seq ?_
  refine e_plain ?_
  refine e_box 0 rfl rfl fun r1 => ?_
  refine e_assign rfl rfl ?_
  refine e_nil ?_
  refine e_seq ?_
  refine e_plain ?_
  refine e_build0 zer36 und36 sis5 rfl ?_
  refine e_alloc 1 zer36 rfl fun r2 => ?_
  refine e_storeA (i := 1) siz36 rfl rfl (arr_size _ _ _) arr_one rfl (arr_sz _ _ _ _ _) (.inl rfl) ?_
  refine e_nil ?_
  refine e_seq ?_
  refine e_draw mixed (by kernel_rfl) ?_
  refine e_sliceA 0 32 und36 siz5 rfl rfl rfl rfl rfl (by omega) (by omega) (by omega) rfl ?_
  refine e_fld (0) und61 rfl siz58 rfl rfl rfl ?_
  refine e_index0 (j := 0) und58 siz52 rfl rfl (by omega) rfl ?_
  refine e_ldI (i := 0) 0 (0) und52 rfl rfl rfl rfl rfl (by decide) (by decide) rfl ⟨[], trivial⟩ ?_
  refine e_call rfl ent27 (low_fn (r 0) 8 hr0 (by decide)) rfl rfl ?_
  refine e_fld (0) und61 rfl siz58 rfl rfl rfl ?_
  refine e_index0 (j := 1) und58 siz52 rfl rfl (by omega) rfl ?_
  refine e_ldI (i := 0) 0 (1) und52 rfl rfl rfl rfl rfl (by decide) (by decide) rfl ⟨[], trivial⟩ ?_
  refine e_call rfl ent27 (low_fn (r 1) 8 hr1 (by decide)) rfl rfl ?_
  refine e_catS rfl rfl rfl (by simp [lowl_len]) ?_
  refine e_as (show _ = sv (lw r) from rfl) ?_
  refine e_copyStr (i := 1) und24 siz5 rfl rfl (lw_lt r) rfl (by omega) rfl ?_
  refine e_nil ?_
  refine e_seq ?_
  rcases okcases r a n with hk0 | ⟨hk0, hk1⟩ | ⟨hk0, hk1, hk2⟩ | ⟨hk0, hk1, hk2, hk3⟩ | ⟨hk0, hk1, hk2, hk3, hk4⟩ | ⟨hk0, hk1, hk2, hk3, hk4⟩
  · skip
    refine e_draw mixed (by kernel_rfl) ?_
    refine e_loadA (i := 1) und36 rfl siz36 rfl rfl (arr_size _ _ _) rfl ⟨[], trivial⟩ ?_
    refine e_as (congrArg Value.agg (arr_congr (kq_copy r))) ?_
    refine e_call rfl ent41 (begun_fn (kq r) (kq_lt r)) rfl rfl ?_
    refine e_fieldC 0 und61 rfl und58 rfl siz58 rfl rfl rfl (Nat.le_of_ble_eq_true rfl) rfl ?_
    refine e_fld (0) und61 rfl siz58 rfl rfl rfl ?_
    refine e_ldC (i := 0) 0 und58 rfl siz58 rfl rfl rfl (by decide) rfl ⟨[], trivial⟩ ?_
    refine e_eqA und58 und52 siz52 eqg58 rfl rfl rfl ?_
    refine e_as (congrArg Value.bool hk0) ?_
    refine e_move rfl rfl ?_
    refine e_no rfl rfl (by decide) rfl ?_
    refine e_no rfl rfl (by decide) rfl ?_
    refine e_no rfl rfl (by decide) rfl ?_
    refine e_pickF rfl rfl rfl rfl ?_
    refine e_move rfl rfl ?_
    refine e_no rfl rfl (by decide) rfl ?_
    refine e_no rfl rfl (by decide) rfl ?_
    refine e_no rfl rfl (by decide) rfl ?_
    refine e_pickF rfl rfl rfl rfl ?_
    refine e_move rfl rfl ?_
    refine e_no rfl rfl (by decide) rfl ?_
    refine e_no rfl rfl (by decide) rfl ?_
    refine e_no rfl rfl (by decide) rfl ?_
    refine e_no rfl rfl (by decide) rfl ?_
    refine e_pickF rfl rfl rfl rfl ?_
    refine e_move rfl rfl ?_
    refine e_no rfl rfl (by decide) rfl ?_
    refine e_no rfl rfl (by decide) rfl ?_
    refine e_no rfl rfl (by decide) rfl ?_
    refine e_no rfl rfl (by decide) rfl ?_
    refine e_no rfl rfl (by decide) rfl ?_
    refine e_no rfl rfl (by decide) rfl ?_
    refine e_no rfl rfl (by decide) rfl ?_
    refine e_no rfl rfl (by decide) rfl ?_
    refine e_pickF rfl rfl rfl rfl ?_
    refine e_as (congrArg Value.bool (show false = okcd r a n from okbase (.inl (hk0)))) ?_
    refine e_assign rfl rfl ?_
    refine e_nil ?_
    refine e_seq ?_
    refine e_seq ?_
    refine e_plain ?_
    refine e_fld (7) und61 rfl siz38 rfl rfl rfl ?_
    refine e_ldC (i := 0) 3 und38 rfl siz38 rfl rfl rfl (by decide) rfl ⟨[], trivial⟩ ?_
    refine e_move rfl rfl ?_
    refine e_nil ?_
    refine e_block ?_
    refine e_loop (fun kk E m => ∃ (i : Nat), kk = 16 - i ∧ E = [(1, ptr r1), (2, ii 0), (4, .bool (okcd r a n && okh n h i)), (52, .agg (arr .u8 16 h)), (53, ii i)] ∧ m = [(0, some ⟨r1, cells 24 [pI .u64 2 r, pI .u64 2 p, pI .u64 3 a, pI .u8 16 h, pV (.int .i64 n)], 61⟩), (1, some ⟨r2, arr .u8 32 (fun j => if 0 ≤ j ∧ j < 0 + min (lw r).length 32 then (lw r).getD (j - 0) 0 else 0), 36⟩)] ∧ (i ≤ 16)) [(1, ptr r1), (2, ii 0), (4, .bool (okcd r a n && okh n h 0)), (52, .agg (arr .u8 16 h)), (53, ii 0)] [(0, some ⟨r1, cells 24 [pI .u64 2 r, pI .u64 2 p, pI .u64 3 a, pI .u8 16 h, pV (.int .i64 n)], 61⟩), (1, some ⟨r2, arr .u8 32 (fun j => if 0 ≤ j ∧ j < 0 + min (lw r).length 32 then (lw r).getD (j - 0) 0 else 0), 36⟩)] (16 - 0) ⟨rfl, rfl, by rw [show okh n h 0 = true from rfl, Bool.and_true]; rfl, rfl, rfl, trivial⟩ ⟨rfl, rfl, trivial⟩ ⟨0, rfl, rfl, rfl, by omega⟩ ?_
    rintro kk E m ⟨i, rfl, rfl, rfl, hf0_0⟩
    refine e_seq ?_
    refine e_plain ?_
    refine e_lt rfl rfl rfl ?_
    refine e_nil ?_
    refine e_seq ?_
    refine e_cond rfl ?_ ?_
    · intro hc0
      have hc0 := of_decide_eq_true hc0
      refine e_skip ?_
      refine e_seq ?_
      refine e_block ?_
      refine e_seq ?_
      refine e_plain ?_
      refine e_move rfl rfl ?_
      refine e_idx und38 und5 siz5 rfl rfl (by omega) rfl ?_
      refine e_assign rfl rfl ?_
      refine e_assign rfl rfl ?_
      refine e_nil ?_
      rcases okcase2 (okcd r a n) n h i with hok | ⟨hok, hlt⟩ | ⟨hok, hlt⟩
      · skip
        refine e_plain ?_
        refine e_move rfl rfl ?_
        refine e_as (congrArg Value.bool hok) ?_
        refine e_move rfl rfl ?_
        refine e_no rfl rfl (by decide) rfl ?_
        refine e_no rfl rfl (by decide) rfl ?_
        refine e_no rfl rfl (by decide) rfl ?_
        refine e_no rfl rfl (by decide) rfl ?_
        refine e_no rfl rfl (by decide) rfl ?_
        refine e_no2 rfl rfl rfl ?_
        refine e_no2 rfl rfl rfl ?_
        refine e_no rfl rfl (by decide) rfl ?_
        refine e_pickF rfl rfl rfl rfl ?_
        refine e_as (congrArg Value.bool (okn_a hok)) ?_
        refine e_assign rfl rfl ?_
        refine e_nil ?_
        refine e_plain ?_
        refine e_add_i (q := 1) rfl rfl rfl (by omega) ?_
        refine e_move rfl rfl ?_
        refine e_nil ?_
        refine ⟨_, [(1, ptr r1), (2, ii 0), (4, .bool (okcd r a n && okh n h (i + 1))), (52, .agg (arr .u8 16 h)), (53, ii (i + 1))], [(0, some ⟨r1, cells 24 [pI .u64 2 r, pI .u64 2 p, pI .u64 3 a, pI .u8 16 h, pV (.int .i64 n)], 61⟩), (1, some ⟨r2, arr .u8 32 (fun j => if 0 ≤ j ∧ j < 0 + min (lw r).length 32 then (lw r).getD (j - 0) 0 else 0), 36⟩)], ?_, ⟨rfl, rfl, rfl, rfl, rfl, trivial⟩, ⟨rfl, rfl, trivial⟩, i + 1, rfl, rfl, rfl, by omega⟩
        omega
      · skip
        refine e_plain ?_
        refine e_move rfl rfl ?_
        refine e_as (congrArg Value.bool hok) ?_
        refine e_move rfl rfl ?_
        refine e_yes rfl rfl rfl ?_
        refine e_move rfl rfl ?_
        refine e_yes rfl rfl rfl ?_
        refine e_fld (23) und61 rfl siz3 rfl rfl rfl ?_
        refine e_yes rfl rfl rfl ?_
        refine e_ldV1 (i := 0) 4 und3 rfl rfl rfl rfl (by decide) rfl ⟨[], trivial⟩ ?_
        refine e_yes rfl rfl rfl ?_
        refine e_lt rfl rfl rfl ?_
        refine e_as (congrArg Value.bool (decide_eq_true hlt)) ?_
        refine e_yes rfl rfl rfl ?_
        refine e_move rfl rfl ?_
        refine e_no rfl rfl (by decide) rfl ?_
        refine e_no rfl rfl (by decide) rfl ?_
        refine e_yes rfl rfl rfl ?_
        refine e_pickT rfl rfl rfl rfl ?_
        refine e_pickT rfl rfl rfl rfl ?_
        refine e_as (congrArg Value.bool (okn_b hok hlt)) ?_
        refine e_assign rfl rfl ?_
        refine e_nil ?_
        refine e_plain ?_
        refine e_add_i (q := 1) rfl rfl rfl (by omega) ?_
        refine e_move rfl rfl ?_
        refine e_nil ?_
        refine ⟨_, [(1, ptr r1), (2, ii 0), (4, .bool (okcd r a n && okh n h (i + 1))), (52, .agg (arr .u8 16 h)), (53, ii (i + 1))], [(0, some ⟨r1, cells 24 [pI .u64 2 r, pI .u64 2 p, pI .u64 3 a, pI .u8 16 h, pV (.int .i64 n)], 61⟩), (1, some ⟨r2, arr .u8 32 (fun j => if 0 ≤ j ∧ j < 0 + min (lw r).length 32 then (lw r).getD (j - 0) 0 else 0), 36⟩)], ?_, ⟨rfl, rfl, rfl, rfl, rfl, trivial⟩, ⟨rfl, rfl, trivial⟩, i + 1, rfl, rfl, rfl, by omega⟩
        omega
      · skip
        refine e_plain ?_
        refine e_move rfl rfl ?_
        refine e_as (congrArg Value.bool hok) ?_
        refine e_move rfl rfl ?_
        refine e_yes rfl rfl rfl ?_
        refine e_move rfl rfl ?_
        refine e_yes rfl rfl rfl ?_
        refine e_fld (23) und61 rfl siz3 rfl rfl rfl ?_
        refine e_yes rfl rfl rfl ?_
        refine e_ldV1 (i := 0) 4 und3 rfl rfl rfl rfl (by decide) rfl ⟨[], trivial⟩ ?_
        refine e_yes rfl rfl rfl ?_
        refine e_lt rfl rfl rfl ?_
        refine e_as (congrArg Value.bool (decide_eq_false hlt)) ?_
        refine e_yes rfl rfl rfl ?_
        refine e_move rfl rfl ?_
        refine e_yes rfl rfl rfl ?_
        refine e_move rfl rfl ?_
        refine e_yes rfl rfl rfl ?_
        refine e_eq rfl rfl rfl ?_
        refine e_yes rfl rfl rfl ?_
        refine e_pickF rfl rfl rfl rfl ?_
        refine e_pickT rfl rfl rfl rfl ?_
        refine e_as (congrArg Value.bool (okn_c hok hlt)) ?_
        refine e_assign rfl rfl ?_
        refine e_nil ?_
        refine e_plain ?_
        refine e_add_i (q := 1) rfl rfl rfl (by omega) ?_
        refine e_move rfl rfl ?_
        refine e_nil ?_
        refine ⟨_, [(1, ptr r1), (2, ii 0), (4, .bool (okcd r a n && okh n h (i + 1))), (52, .agg (arr .u8 16 h)), (53, ii (i + 1))], [(0, some ⟨r1, cells 24 [pI .u64 2 r, pI .u64 2 p, pI .u64 3 a, pI .u8 16 h, pV (.int .i64 n)], 61⟩), (1, some ⟨r2, arr .u8 32 (fun j => if 0 ≤ j ∧ j < 0 + min (lw r).length 32 then (lw r).getD (j - 0) 0 else 0), 36⟩)], ?_, ⟨rfl, rfl, rfl, rfl, rfl, trivial⟩, ⟨rfl, rfl, trivial⟩, i + 1, rfl, rfl, rfl, by omega⟩
        omega
    · intro hc0
      have hc0 := of_decide_eq_false hc0
      have hi16 : i = 16 := by omega
      subst hi16
      refine e_exit ?_
      refine e_seq ?_
      refine e_seq ?_
      refine e_plain ?_
      refine e_move rfl rfl ?_
      refine e_not rfl rfl ?_
      refine e_nil ?_
      refine e_cond rfl ?_ ?_
      · intro hc1
        have hfin : ¬ (okcd r a n && okh n h 16) = true := fun hx => by rw [hx] at hc1; exact absurd hc1 (by decide)
        refine e_seq ?_
        refine e_plain ?_
        refine e_assign rfl rfl ?_
        refine e_nil ?_
        refine e_ret ?_
        first | rw [if_pos hfin] | rw [if_neg hfin]
        exact ⟨_, rfl, .tmp rfl⟩
      · intro hc1
        have hfin : (okcd r a n && okh n h 16) = true := by simpa using hc1
        refine e_skip ?_
        refine e_seq ?_
        refine e_plain ?_
        refine e_assign rfl rfl ?_
        refine e_nil ?_
        refine e_ret ?_
        first | rw [if_pos hfin] | rw [if_neg hfin]
        exact ⟨_, rfl, .tmp rfl⟩
  · skip
    refine e_draw mixed (by kernel_rfl) ?_
    refine e_loadA (i := 1) und36 rfl siz36 rfl rfl (arr_size _ _ _) rfl ⟨[], trivial⟩ ?_
    refine e_as (congrArg Value.agg (arr_congr (kq_copy r))) ?_
    refine e_call rfl ent41 (begun_fn (kq r) (kq_lt r)) rfl rfl ?_
    refine e_fieldC 0 und61 rfl und58 rfl siz58 rfl rfl rfl (Nat.le_of_ble_eq_true rfl) rfl ?_
    refine e_fld (0) und61 rfl siz58 rfl rfl rfl ?_
    refine e_ldC (i := 0) 0 und58 rfl siz58 rfl rfl rfl (by decide) rfl ⟨[], trivial⟩ ?_
    refine e_eqA und58 und52 siz52 eqg58 rfl rfl rfl ?_
    refine e_as (congrArg Value.bool hk0) ?_
    refine e_move rfl rfl ?_
    refine e_yes rfl rfl rfl ?_
    refine e_fld (23) und61 rfl siz3 rfl rfl rfl ?_
    refine e_yes rfl rfl rfl ?_
    refine e_ldV1 (i := 0) 4 und3 rfl rfl rfl rfl (by decide) rfl ⟨[], trivial⟩ ?_
    refine e_yes rfl rfl rfl ?_
    refine e_ge rfl rfl rfl ?_
    refine e_as (congrArg Value.bool (decide_eq_false hk1)) ?_
    refine e_pickT rfl rfl rfl rfl ?_
    refine e_move rfl rfl ?_
    refine e_no rfl rfl (by decide) rfl ?_
    refine e_no rfl rfl (by decide) rfl ?_
    refine e_no rfl rfl (by decide) rfl ?_
    refine e_pickF rfl rfl rfl rfl ?_
    refine e_move rfl rfl ?_
    refine e_no rfl rfl (by decide) rfl ?_
    refine e_no rfl rfl (by decide) rfl ?_
    refine e_no rfl rfl (by decide) rfl ?_
    refine e_no rfl rfl (by decide) rfl ?_
    refine e_pickF rfl rfl rfl rfl ?_
    refine e_move rfl rfl ?_
    refine e_no rfl rfl (by decide) rfl ?_
    refine e_no rfl rfl (by decide) rfl ?_
    refine e_no rfl rfl (by decide) rfl ?_
    refine e_no rfl rfl (by decide) rfl ?_
    refine e_no rfl rfl (by decide) rfl ?_
    refine e_no rfl rfl (by decide) rfl ?_
    refine e_no rfl rfl (by decide) rfl ?_
    refine e_no rfl rfl (by decide) rfl ?_
    refine e_pickF rfl rfl rfl rfl ?_
    refine e_as (congrArg Value.bool (show false = okcd r a n from okbase (.inr (.inl (decide_eq_false hk1))))) ?_
    refine e_assign rfl rfl ?_
    refine e_nil ?_
    refine e_seq ?_
    refine e_seq ?_
    refine e_plain ?_
    refine e_fld (7) und61 rfl siz38 rfl rfl rfl ?_
    refine e_ldC (i := 0) 3 und38 rfl siz38 rfl rfl rfl (by decide) rfl ⟨[], trivial⟩ ?_
    refine e_move rfl rfl ?_
    refine e_nil ?_
    refine e_block ?_
    refine e_loop (fun kk E m => ∃ (i : Nat), kk = 16 - i ∧ E = [(1, ptr r1), (2, ii 0), (4, .bool (okcd r a n && okh n h i)), (52, .agg (arr .u8 16 h)), (53, ii i)] ∧ m = [(0, some ⟨r1, cells 24 [pI .u64 2 r, pI .u64 2 p, pI .u64 3 a, pI .u8 16 h, pV (.int .i64 n)], 61⟩), (1, some ⟨r2, arr .u8 32 (fun j => if 0 ≤ j ∧ j < 0 + min (lw r).length 32 then (lw r).getD (j - 0) 0 else 0), 36⟩)] ∧ (i ≤ 16)) [(1, ptr r1), (2, ii 0), (4, .bool (okcd r a n && okh n h 0)), (52, .agg (arr .u8 16 h)), (53, ii 0)] [(0, some ⟨r1, cells 24 [pI .u64 2 r, pI .u64 2 p, pI .u64 3 a, pI .u8 16 h, pV (.int .i64 n)], 61⟩), (1, some ⟨r2, arr .u8 32 (fun j => if 0 ≤ j ∧ j < 0 + min (lw r).length 32 then (lw r).getD (j - 0) 0 else 0), 36⟩)] (16 - 0) ⟨rfl, rfl, by rw [show okh n h 0 = true from rfl, Bool.and_true]; rfl, rfl, rfl, trivial⟩ ⟨rfl, rfl, trivial⟩ ⟨0, rfl, rfl, rfl, by omega⟩ ?_
    rintro kk E m ⟨i, rfl, rfl, rfl, hf0_0⟩
    refine e_seq ?_
    refine e_plain ?_
    refine e_lt rfl rfl rfl ?_
    refine e_nil ?_
    refine e_seq ?_
    refine e_cond rfl ?_ ?_
    · intro hc0
      have hc0 := of_decide_eq_true hc0
      refine e_skip ?_
      refine e_seq ?_
      refine e_block ?_
      refine e_seq ?_
      refine e_plain ?_
      refine e_move rfl rfl ?_
      refine e_idx und38 und5 siz5 rfl rfl (by omega) rfl ?_
      refine e_assign rfl rfl ?_
      refine e_assign rfl rfl ?_
      refine e_nil ?_
      rcases okcase2 (okcd r a n) n h i with hok | ⟨hok, hlt⟩ | ⟨hok, hlt⟩
      · skip
        refine e_plain ?_
        refine e_move rfl rfl ?_
        refine e_as (congrArg Value.bool hok) ?_
        refine e_move rfl rfl ?_
        refine e_no rfl rfl (by decide) rfl ?_
        refine e_no rfl rfl (by decide) rfl ?_
        refine e_no rfl rfl (by decide) rfl ?_
        refine e_no rfl rfl (by decide) rfl ?_
        refine e_no rfl rfl (by decide) rfl ?_
        refine e_no2 rfl rfl rfl ?_
        refine e_no2 rfl rfl rfl ?_
        refine e_no rfl rfl (by decide) rfl ?_
        refine e_pickF rfl rfl rfl rfl ?_
        refine e_as (congrArg Value.bool (okn_a hok)) ?_
        refine e_assign rfl rfl ?_
        refine e_nil ?_
        refine e_plain ?_
        refine e_add_i (q := 1) rfl rfl rfl (by omega) ?_
        refine e_move rfl rfl ?_
        refine e_nil ?_
        refine ⟨_, [(1, ptr r1), (2, ii 0), (4, .bool (okcd r a n && okh n h (i + 1))), (52, .agg (arr .u8 16 h)), (53, ii (i + 1))], [(0, some ⟨r1, cells 24 [pI .u64 2 r, pI .u64 2 p, pI .u64 3 a, pI .u8 16 h, pV (.int .i64 n)], 61⟩), (1, some ⟨r2, arr .u8 32 (fun j => if 0 ≤ j ∧ j < 0 + min (lw r).length 32 then (lw r).getD (j - 0) 0 else 0), 36⟩)], ?_, ⟨rfl, rfl, rfl, rfl, rfl, trivial⟩, ⟨rfl, rfl, trivial⟩, i + 1, rfl, rfl, rfl, by omega⟩
        omega
      · skip
        refine e_plain ?_
        refine e_move rfl rfl ?_
        refine e_as (congrArg Value.bool hok) ?_
        refine e_move rfl rfl ?_
        refine e_yes rfl rfl rfl ?_
        refine e_move rfl rfl ?_
        refine e_yes rfl rfl rfl ?_
        refine e_fld (23) und61 rfl siz3 rfl rfl rfl ?_
        refine e_yes rfl rfl rfl ?_
        refine e_ldV1 (i := 0) 4 und3 rfl rfl rfl rfl (by decide) rfl ⟨[], trivial⟩ ?_
        refine e_yes rfl rfl rfl ?_
        refine e_lt rfl rfl rfl ?_
        refine e_as (congrArg Value.bool (decide_eq_true hlt)) ?_
        refine e_yes rfl rfl rfl ?_
        refine e_move rfl rfl ?_
        refine e_no rfl rfl (by decide) rfl ?_
        refine e_no rfl rfl (by decide) rfl ?_
        refine e_yes rfl rfl rfl ?_
        refine e_pickT rfl rfl rfl rfl ?_
        refine e_pickT rfl rfl rfl rfl ?_
        refine e_as (congrArg Value.bool (okn_b hok hlt)) ?_
        refine e_assign rfl rfl ?_
        refine e_nil ?_
        refine e_plain ?_
        refine e_add_i (q := 1) rfl rfl rfl (by omega) ?_
        refine e_move rfl rfl ?_
        refine e_nil ?_
        refine ⟨_, [(1, ptr r1), (2, ii 0), (4, .bool (okcd r a n && okh n h (i + 1))), (52, .agg (arr .u8 16 h)), (53, ii (i + 1))], [(0, some ⟨r1, cells 24 [pI .u64 2 r, pI .u64 2 p, pI .u64 3 a, pI .u8 16 h, pV (.int .i64 n)], 61⟩), (1, some ⟨r2, arr .u8 32 (fun j => if 0 ≤ j ∧ j < 0 + min (lw r).length 32 then (lw r).getD (j - 0) 0 else 0), 36⟩)], ?_, ⟨rfl, rfl, rfl, rfl, rfl, trivial⟩, ⟨rfl, rfl, trivial⟩, i + 1, rfl, rfl, rfl, by omega⟩
        omega
      · skip
        refine e_plain ?_
        refine e_move rfl rfl ?_
        refine e_as (congrArg Value.bool hok) ?_
        refine e_move rfl rfl ?_
        refine e_yes rfl rfl rfl ?_
        refine e_move rfl rfl ?_
        refine e_yes rfl rfl rfl ?_
        refine e_fld (23) und61 rfl siz3 rfl rfl rfl ?_
        refine e_yes rfl rfl rfl ?_
        refine e_ldV1 (i := 0) 4 und3 rfl rfl rfl rfl (by decide) rfl ⟨[], trivial⟩ ?_
        refine e_yes rfl rfl rfl ?_
        refine e_lt rfl rfl rfl ?_
        refine e_as (congrArg Value.bool (decide_eq_false hlt)) ?_
        refine e_yes rfl rfl rfl ?_
        refine e_move rfl rfl ?_
        refine e_yes rfl rfl rfl ?_
        refine e_move rfl rfl ?_
        refine e_yes rfl rfl rfl ?_
        refine e_eq rfl rfl rfl ?_
        refine e_yes rfl rfl rfl ?_
        refine e_pickF rfl rfl rfl rfl ?_
        refine e_pickT rfl rfl rfl rfl ?_
        refine e_as (congrArg Value.bool (okn_c hok hlt)) ?_
        refine e_assign rfl rfl ?_
        refine e_nil ?_
        refine e_plain ?_
        refine e_add_i (q := 1) rfl rfl rfl (by omega) ?_
        refine e_move rfl rfl ?_
        refine e_nil ?_
        refine ⟨_, [(1, ptr r1), (2, ii 0), (4, .bool (okcd r a n && okh n h (i + 1))), (52, .agg (arr .u8 16 h)), (53, ii (i + 1))], [(0, some ⟨r1, cells 24 [pI .u64 2 r, pI .u64 2 p, pI .u64 3 a, pI .u8 16 h, pV (.int .i64 n)], 61⟩), (1, some ⟨r2, arr .u8 32 (fun j => if 0 ≤ j ∧ j < 0 + min (lw r).length 32 then (lw r).getD (j - 0) 0 else 0), 36⟩)], ?_, ⟨rfl, rfl, rfl, rfl, rfl, trivial⟩, ⟨rfl, rfl, trivial⟩, i + 1, rfl, rfl, rfl, by omega⟩
        omega
    · intro hc0
      have hc0 := of_decide_eq_false hc0
      have hi16 : i = 16 := by omega
      subst hi16
      refine e_exit ?_
      refine e_seq ?_
      refine e_seq ?_
      refine e_plain ?_
      refine e_move rfl rfl ?_
      refine e_not rfl rfl ?_
      refine e_nil ?_
      refine e_cond rfl ?_ ?_
      · intro hc1
        have hfin : ¬ (okcd r a n && okh n h 16) = true := fun hx => by rw [hx] at hc1; exact absurd hc1 (by decide)
        refine e_seq ?_
        refine e_plain ?_
        refine e_assign rfl rfl ?_
        refine e_nil ?_
        refine e_ret ?_
        first | rw [if_pos hfin] | rw [if_neg hfin]
        exact ⟨_, rfl, .tmp rfl⟩
      · intro hc1
        have hfin : (okcd r a n && okh n h 16) = true := by simpa using hc1
        refine e_skip ?_
        refine e_seq ?_
        refine e_plain ?_
        refine e_assign rfl rfl ?_
        refine e_nil ?_
        refine e_ret ?_
        first | rw [if_pos hfin] | rw [if_neg hfin]
        exact ⟨_, rfl, .tmp rfl⟩
  · skip
    refine e_draw mixed (by kernel_rfl) ?_
    refine e_loadA (i := 1) und36 rfl siz36 rfl rfl (arr_size _ _ _) rfl ⟨[], trivial⟩ ?_
    refine e_as (congrArg Value.agg (arr_congr (kq_copy r))) ?_
    refine e_call rfl ent41 (begun_fn (kq r) (kq_lt r)) rfl rfl ?_
    refine e_fieldC 0 und61 rfl und58 rfl siz58 rfl rfl rfl (Nat.le_of_ble_eq_true rfl) rfl ?_
    refine e_fld (0) und61 rfl siz58 rfl rfl rfl ?_
    refine e_ldC (i := 0) 0 und58 rfl siz58 rfl rfl rfl (by decide) rfl ⟨[], trivial⟩ ?_
    refine e_eqA und58 und52 siz52 eqg58 rfl rfl rfl ?_
    refine e_as (congrArg Value.bool hk0) ?_
    refine e_move rfl rfl ?_
    refine e_yes rfl rfl rfl ?_
    refine e_fld (23) und61 rfl siz3 rfl rfl rfl ?_
    refine e_yes rfl rfl rfl ?_
    refine e_ldV1 (i := 0) 4 und3 rfl rfl rfl rfl (by decide) rfl ⟨[], trivial⟩ ?_
    refine e_yes rfl rfl rfl ?_
    refine e_ge rfl rfl rfl ?_
    refine e_as (congrArg Value.bool (decide_eq_true hk1)) ?_
    refine e_pickT rfl rfl rfl rfl ?_
    refine e_move rfl rfl ?_
    refine e_yes rfl rfl rfl ?_
    refine e_fld (23) und61 rfl siz3 rfl rfl rfl ?_
    refine e_yes rfl rfl rfl ?_
    refine e_ldV1 (i := 0) 4 und3 rfl rfl rfl rfl (by decide) rfl ⟨[], trivial⟩ ?_
    refine e_yes rfl rfl rfl ?_
    refine e_lt rfl rfl rfl ?_
    refine e_as (congrArg Value.bool (decide_eq_false hk2)) ?_
    refine e_pickT rfl rfl rfl rfl ?_
    refine e_move rfl rfl ?_
    refine e_no rfl rfl (by decide) rfl ?_
    refine e_no rfl rfl (by decide) rfl ?_
    refine e_no rfl rfl (by decide) rfl ?_
    refine e_no rfl rfl (by decide) rfl ?_
    refine e_pickF rfl rfl rfl rfl ?_
    refine e_move rfl rfl ?_
    refine e_no rfl rfl (by decide) rfl ?_
    refine e_no rfl rfl (by decide) rfl ?_
    refine e_no rfl rfl (by decide) rfl ?_
    refine e_no rfl rfl (by decide) rfl ?_
    refine e_no rfl rfl (by decide) rfl ?_
    refine e_no rfl rfl (by decide) rfl ?_
    refine e_no rfl rfl (by decide) rfl ?_
    refine e_no rfl rfl (by decide) rfl ?_
    refine e_pickF rfl rfl rfl rfl ?_
    refine e_as (congrArg Value.bool (show false = okcd r a n from okbase (.inr (.inr (.inl (decide_eq_false hk2)))))) ?_
    refine e_assign rfl rfl ?_
    refine e_nil ?_
    refine e_seq ?_
    refine e_seq ?_
    refine e_plain ?_
    refine e_fld (7) und61 rfl siz38 rfl rfl rfl ?_
    refine e_ldC (i := 0) 3 und38 rfl siz38 rfl rfl rfl (by decide) rfl ⟨[], trivial⟩ ?_
    refine e_move rfl rfl ?_
    refine e_nil ?_
    refine e_block ?_
    refine e_loop (fun kk E m => ∃ (i : Nat), kk = 16 - i ∧ E = [(1, ptr r1), (2, ii 0), (4, .bool (okcd r a n && okh n h i)), (52, .agg (arr .u8 16 h)), (53, ii i)] ∧ m = [(0, some ⟨r1, cells 24 [pI .u64 2 r, pI .u64 2 p, pI .u64 3 a, pI .u8 16 h, pV (.int .i64 n)], 61⟩), (1, some ⟨r2, arr .u8 32 (fun j => if 0 ≤ j ∧ j < 0 + min (lw r).length 32 then (lw r).getD (j - 0) 0 else 0), 36⟩)] ∧ (i ≤ 16)) [(1, ptr r1), (2, ii 0), (4, .bool (okcd r a n && okh n h 0)), (52, .agg (arr .u8 16 h)), (53, ii 0)] [(0, some ⟨r1, cells 24 [pI .u64 2 r, pI .u64 2 p, pI .u64 3 a, pI .u8 16 h, pV (.int .i64 n)], 61⟩), (1, some ⟨r2, arr .u8 32 (fun j => if 0 ≤ j ∧ j < 0 + min (lw r).length 32 then (lw r).getD (j - 0) 0 else 0), 36⟩)] (16 - 0) ⟨rfl, rfl, by rw [show okh n h 0 = true from rfl, Bool.and_true]; rfl, rfl, rfl, trivial⟩ ⟨rfl, rfl, trivial⟩ ⟨0, rfl, rfl, rfl, by omega⟩ ?_
    rintro kk E m ⟨i, rfl, rfl, rfl, hf0_0⟩
    refine e_seq ?_
    refine e_plain ?_
    refine e_lt rfl rfl rfl ?_
    refine e_nil ?_
    refine e_seq ?_
    refine e_cond rfl ?_ ?_
    · intro hc0
      have hc0 := of_decide_eq_true hc0
      refine e_skip ?_
      refine e_seq ?_
      refine e_block ?_
      refine e_seq ?_
      refine e_plain ?_
      refine e_move rfl rfl ?_
      refine e_idx und38 und5 siz5 rfl rfl (by omega) rfl ?_
      refine e_assign rfl rfl ?_
      refine e_assign rfl rfl ?_
      refine e_nil ?_
      rcases okcase2 (okcd r a n) n h i with hok | ⟨hok, hlt⟩ | ⟨hok, hlt⟩
      · skip
        refine e_plain ?_
        refine e_move rfl rfl ?_
        refine e_as (congrArg Value.bool hok) ?_
        refine e_move rfl rfl ?_
        refine e_no rfl rfl (by decide) rfl ?_
        refine e_no rfl rfl (by decide) rfl ?_
        refine e_no rfl rfl (by decide) rfl ?_
        refine e_no rfl rfl (by decide) rfl ?_
        refine e_no rfl rfl (by decide) rfl ?_
        refine e_no2 rfl rfl rfl ?_
        refine e_no2 rfl rfl rfl ?_
        refine e_no rfl rfl (by decide) rfl ?_
        refine e_pickF rfl rfl rfl rfl ?_
        refine e_as (congrArg Value.bool (okn_a hok)) ?_
        refine e_assign rfl rfl ?_
        refine e_nil ?_
        refine e_plain ?_
        refine e_add_i (q := 1) rfl rfl rfl (by omega) ?_
        refine e_move rfl rfl ?_
        refine e_nil ?_
        refine ⟨_, [(1, ptr r1), (2, ii 0), (4, .bool (okcd r a n && okh n h (i + 1))), (52, .agg (arr .u8 16 h)), (53, ii (i + 1))], [(0, some ⟨r1, cells 24 [pI .u64 2 r, pI .u64 2 p, pI .u64 3 a, pI .u8 16 h, pV (.int .i64 n)], 61⟩), (1, some ⟨r2, arr .u8 32 (fun j => if 0 ≤ j ∧ j < 0 + min (lw r).length 32 then (lw r).getD (j - 0) 0 else 0), 36⟩)], ?_, ⟨rfl, rfl, rfl, rfl, rfl, trivial⟩, ⟨rfl, rfl, trivial⟩, i + 1, rfl, rfl, rfl, by omega⟩
        omega
      · skip
        refine e_plain ?_
        refine e_move rfl rfl ?_
        refine e_as (congrArg Value.bool hok) ?_
        refine e_move rfl rfl ?_
        refine e_yes rfl rfl rfl ?_
        refine e_move rfl rfl ?_
        refine e_yes rfl rfl rfl ?_
        refine e_fld (23) und61 rfl siz3 rfl rfl rfl ?_
        refine e_yes rfl rfl rfl ?_
        refine e_ldV1 (i := 0) 4 und3 rfl rfl rfl rfl (by decide) rfl ⟨[], trivial⟩ ?_
        refine e_yes rfl rfl rfl ?_
        refine e_lt rfl rfl rfl ?_
        refine e_as (congrArg Value.bool (decide_eq_true hlt)) ?_
        refine e_yes rfl rfl rfl ?_
        refine e_move rfl rfl ?_
        refine e_no rfl rfl (by decide) rfl ?_
        refine e_no rfl rfl (by decide) rfl ?_
        refine e_yes rfl rfl rfl ?_
        refine e_pickT rfl rfl rfl rfl ?_
        refine e_pickT rfl rfl rfl rfl ?_
        refine e_as (congrArg Value.bool (okn_b hok hlt)) ?_
        refine e_assign rfl rfl ?_
        refine e_nil ?_
        refine e_plain ?_
        refine e_add_i (q := 1) rfl rfl rfl (by omega) ?_
        refine e_move rfl rfl ?_
        refine e_nil ?_
        refine ⟨_, [(1, ptr r1), (2, ii 0), (4, .bool (okcd r a n && okh n h (i + 1))), (52, .agg (arr .u8 16 h)), (53, ii (i + 1))], [(0, some ⟨r1, cells 24 [pI .u64 2 r, pI .u64 2 p, pI .u64 3 a, pI .u8 16 h, pV (.int .i64 n)], 61⟩), (1, some ⟨r2, arr .u8 32 (fun j => if 0 ≤ j ∧ j < 0 + min (lw r).length 32 then (lw r).getD (j - 0) 0 else 0), 36⟩)], ?_, ⟨rfl, rfl, rfl, rfl, rfl, trivial⟩, ⟨rfl, rfl, trivial⟩, i + 1, rfl, rfl, rfl, by omega⟩
        omega
      · skip
        refine e_plain ?_
        refine e_move rfl rfl ?_
        refine e_as (congrArg Value.bool hok) ?_
        refine e_move rfl rfl ?_
        refine e_yes rfl rfl rfl ?_
        refine e_move rfl rfl ?_
        refine e_yes rfl rfl rfl ?_
        refine e_fld (23) und61 rfl siz3 rfl rfl rfl ?_
        refine e_yes rfl rfl rfl ?_
        refine e_ldV1 (i := 0) 4 und3 rfl rfl rfl rfl (by decide) rfl ⟨[], trivial⟩ ?_
        refine e_yes rfl rfl rfl ?_
        refine e_lt rfl rfl rfl ?_
        refine e_as (congrArg Value.bool (decide_eq_false hlt)) ?_
        refine e_yes rfl rfl rfl ?_
        refine e_move rfl rfl ?_
        refine e_yes rfl rfl rfl ?_
        refine e_move rfl rfl ?_
        refine e_yes rfl rfl rfl ?_
        refine e_eq rfl rfl rfl ?_
        refine e_yes rfl rfl rfl ?_
        refine e_pickF rfl rfl rfl rfl ?_
        refine e_pickT rfl rfl rfl rfl ?_
        refine e_as (congrArg Value.bool (okn_c hok hlt)) ?_
        refine e_assign rfl rfl ?_
        refine e_nil ?_
        refine e_plain ?_
        refine e_add_i (q := 1) rfl rfl rfl (by omega) ?_
        refine e_move rfl rfl ?_
        refine e_nil ?_
        refine ⟨_, [(1, ptr r1), (2, ii 0), (4, .bool (okcd r a n && okh n h (i + 1))), (52, .agg (arr .u8 16 h)), (53, ii (i + 1))], [(0, some ⟨r1, cells 24 [pI .u64 2 r, pI .u64 2 p, pI .u64 3 a, pI .u8 16 h, pV (.int .i64 n)], 61⟩), (1, some ⟨r2, arr .u8 32 (fun j => if 0 ≤ j ∧ j < 0 + min (lw r).length 32 then (lw r).getD (j - 0) 0 else 0), 36⟩)], ?_, ⟨rfl, rfl, rfl, rfl, rfl, trivial⟩, ⟨rfl, rfl, trivial⟩, i + 1, rfl, rfl, rfl, by omega⟩
        omega
    · intro hc0
      have hc0 := of_decide_eq_false hc0
      have hi16 : i = 16 := by omega
      subst hi16
      refine e_exit ?_
      refine e_seq ?_
      refine e_seq ?_
      refine e_plain ?_
      refine e_move rfl rfl ?_
      refine e_not rfl rfl ?_
      refine e_nil ?_
      refine e_cond rfl ?_ ?_
      · intro hc1
        have hfin : ¬ (okcd r a n && okh n h 16) = true := fun hx => by rw [hx] at hc1; exact absurd hc1 (by decide)
        refine e_seq ?_
        refine e_plain ?_
        refine e_assign rfl rfl ?_
        refine e_nil ?_
        refine e_ret ?_
        first | rw [if_pos hfin] | rw [if_neg hfin]
        exact ⟨_, rfl, .tmp rfl⟩
      · intro hc1
        have hfin : (okcd r a n && okh n h 16) = true := by simpa using hc1
        refine e_skip ?_
        refine e_seq ?_
        refine e_plain ?_
        refine e_assign rfl rfl ?_
        refine e_nil ?_
        refine e_ret ?_
        first | rw [if_pos hfin] | rw [if_neg hfin]
        exact ⟨_, rfl, .tmp rfl⟩
  · skip
    refine e_draw mixed (by kernel_rfl) ?_
    refine e_loadA (i := 1) und36 rfl siz36 rfl rfl (arr_size _ _ _) rfl ⟨[], trivial⟩ ?_
    refine e_as (congrArg Value.agg (arr_congr (kq_copy r))) ?_
    refine e_call rfl ent41 (begun_fn (kq r) (kq_lt r)) rfl rfl ?_
    refine e_fieldC 0 und61 rfl und58 rfl siz58 rfl rfl rfl (Nat.le_of_ble_eq_true rfl) rfl ?_
    refine e_fld (0) und61 rfl siz58 rfl rfl rfl ?_
    refine e_ldC (i := 0) 0 und58 rfl siz58 rfl rfl rfl (by decide) rfl ⟨[], trivial⟩ ?_
    refine e_eqA und58 und52 siz52 eqg58 rfl rfl rfl ?_
    refine e_as (congrArg Value.bool hk0) ?_
    refine e_move rfl rfl ?_
    refine e_yes rfl rfl rfl ?_
    refine e_fld (23) und61 rfl siz3 rfl rfl rfl ?_
    refine e_yes rfl rfl rfl ?_
    refine e_ldV1 (i := 0) 4 und3 rfl rfl rfl rfl (by decide) rfl ⟨[], trivial⟩ ?_
    refine e_yes rfl rfl rfl ?_
    refine e_ge rfl rfl rfl ?_
    refine e_as (congrArg Value.bool (decide_eq_true hk1)) ?_
    refine e_pickT rfl rfl rfl rfl ?_
    refine e_move rfl rfl ?_
    refine e_yes rfl rfl rfl ?_
    refine e_fld (23) und61 rfl siz3 rfl rfl rfl ?_
    refine e_yes rfl rfl rfl ?_
    refine e_ldV1 (i := 0) 4 und3 rfl rfl rfl rfl (by decide) rfl ⟨[], trivial⟩ ?_
    refine e_yes rfl rfl rfl ?_
    refine e_lt rfl rfl rfl ?_
    refine e_as (congrArg Value.bool (decide_eq_true hk2)) ?_
    refine e_pickT rfl rfl rfl rfl ?_
    refine e_move rfl rfl ?_
    refine e_yes rfl rfl rfl ?_
    refine e_fld (4) und61 rfl siz59 rfl rfl rfl ?_
    refine e_yes rfl rfl rfl ?_
    refine e_at (6) (j := 2) und59 siz52 rfl rfl (by omega) (by omega) rfl ?_
    refine e_yes rfl rfl rfl ?_
    refine e_ldI (i := 0) 2 (2) und52 rfl rfl rfl rfl rfl (by decide) (by decide) rfl ⟨[], trivial⟩ ?_
    refine e_yes rfl rfl rfl ?_
    refine e_lt rfl rfl rfl ?_
    refine e_as (congrArg Value.bool (decide_eq_false (by omega))) ?_
    refine e_pickT rfl rfl rfl rfl ?_
    refine e_move rfl rfl ?_
    refine e_no rfl rfl (by decide) rfl ?_
    refine e_no rfl rfl (by decide) rfl ?_
    refine e_no rfl rfl (by decide) rfl ?_
    refine e_no rfl rfl (by decide) rfl ?_
    refine e_no rfl rfl (by decide) rfl ?_
    refine e_no rfl rfl (by decide) rfl ?_
    refine e_no rfl rfl (by decide) rfl ?_
    refine e_no rfl rfl (by decide) rfl ?_
    refine e_pickF rfl rfl rfl rfl ?_
    refine e_as (congrArg Value.bool (show false = okcd r a n from okbase (.inr (.inr (.inr (.inl (decide_eq_false hk3))))))) ?_
    refine e_assign rfl rfl ?_
    refine e_nil ?_
    refine e_seq ?_
    refine e_seq ?_
    refine e_plain ?_
    refine e_fld (7) und61 rfl siz38 rfl rfl rfl ?_
    refine e_ldC (i := 0) 3 und38 rfl siz38 rfl rfl rfl (by decide) rfl ⟨[], trivial⟩ ?_
    refine e_move rfl rfl ?_
    refine e_nil ?_
    refine e_block ?_
    refine e_loop (fun kk E m => ∃ (i : Nat), kk = 16 - i ∧ E = [(1, ptr r1), (2, ii 0), (4, .bool (okcd r a n && okh n h i)), (52, .agg (arr .u8 16 h)), (53, ii i)] ∧ m = [(0, some ⟨r1, cells 24 [pI .u64 2 r, pI .u64 2 p, pI .u64 3 a, pI .u8 16 h, pV (.int .i64 n)], 61⟩), (1, some ⟨r2, arr .u8 32 (fun j => if 0 ≤ j ∧ j < 0 + min (lw r).length 32 then (lw r).getD (j - 0) 0 else 0), 36⟩)] ∧ (i ≤ 16)) [(1, ptr r1), (2, ii 0), (4, .bool (okcd r a n && okh n h 0)), (52, .agg (arr .u8 16 h)), (53, ii 0)] [(0, some ⟨r1, cells 24 [pI .u64 2 r, pI .u64 2 p, pI .u64 3 a, pI .u8 16 h, pV (.int .i64 n)], 61⟩), (1, some ⟨r2, arr .u8 32 (fun j => if 0 ≤ j ∧ j < 0 + min (lw r).length 32 then (lw r).getD (j - 0) 0 else 0), 36⟩)] (16 - 0) ⟨rfl, rfl, by rw [show okh n h 0 = true from rfl, Bool.and_true]; rfl, rfl, rfl, trivial⟩ ⟨rfl, rfl, trivial⟩ ⟨0, rfl, rfl, rfl, by omega⟩ ?_
    rintro kk E m ⟨i, rfl, rfl, rfl, hf0_0⟩
    refine e_seq ?_
    refine e_plain ?_
    refine e_lt rfl rfl rfl ?_
    refine e_nil ?_
    refine e_seq ?_
    refine e_cond rfl ?_ ?_
    · intro hc0
      have hc0 := of_decide_eq_true hc0
      refine e_skip ?_
      refine e_seq ?_
      refine e_block ?_
      refine e_seq ?_
      refine e_plain ?_
      refine e_move rfl rfl ?_
      refine e_idx und38 und5 siz5 rfl rfl (by omega) rfl ?_
      refine e_assign rfl rfl ?_
      refine e_assign rfl rfl ?_
      refine e_nil ?_
      rcases okcase2 (okcd r a n) n h i with hok | ⟨hok, hlt⟩ | ⟨hok, hlt⟩
      · skip
        refine e_plain ?_
        refine e_move rfl rfl ?_
        refine e_as (congrArg Value.bool hok) ?_
        refine e_move rfl rfl ?_
        refine e_no rfl rfl (by decide) rfl ?_
        refine e_no rfl rfl (by decide) rfl ?_
        refine e_no rfl rfl (by decide) rfl ?_
        refine e_no rfl rfl (by decide) rfl ?_
        refine e_no rfl rfl (by decide) rfl ?_
        refine e_no2 rfl rfl rfl ?_
        refine e_no2 rfl rfl rfl ?_
        refine e_no rfl rfl (by decide) rfl ?_
        refine e_pickF rfl rfl rfl rfl ?_
        refine e_as (congrArg Value.bool (okn_a hok)) ?_
        refine e_assign rfl rfl ?_
        refine e_nil ?_
        refine e_plain ?_
        refine e_add_i (q := 1) rfl rfl rfl (by omega) ?_
        refine e_move rfl rfl ?_
        refine e_nil ?_
        refine ⟨_, [(1, ptr r1), (2, ii 0), (4, .bool (okcd r a n && okh n h (i + 1))), (52, .agg (arr .u8 16 h)), (53, ii (i + 1))], [(0, some ⟨r1, cells 24 [pI .u64 2 r, pI .u64 2 p, pI .u64 3 a, pI .u8 16 h, pV (.int .i64 n)], 61⟩), (1, some ⟨r2, arr .u8 32 (fun j => if 0 ≤ j ∧ j < 0 + min (lw r).length 32 then (lw r).getD (j - 0) 0 else 0), 36⟩)], ?_, ⟨rfl, rfl, rfl, rfl, rfl, trivial⟩, ⟨rfl, rfl, trivial⟩, i + 1, rfl, rfl, rfl, by omega⟩
        omega
      · skip
        refine e_plain ?_
        refine e_move rfl rfl ?_
        refine e_as (congrArg Value.bool hok) ?_
        refine e_move rfl rfl ?_
        refine e_yes rfl rfl rfl ?_
        refine e_move rfl rfl ?_
        refine e_yes rfl rfl rfl ?_
        refine e_fld (23) und61 rfl siz3 rfl rfl rfl ?_
        refine e_yes rfl rfl rfl ?_
        refine e_ldV1 (i := 0) 4 und3 rfl rfl rfl rfl (by decide) rfl ⟨[], trivial⟩ ?_
        refine e_yes rfl rfl rfl ?_
        refine e_lt rfl rfl rfl ?_
        refine e_as (congrArg Value.bool (decide_eq_true hlt)) ?_
        refine e_yes rfl rfl rfl ?_
        refine e_move rfl rfl ?_
        refine e_no rfl rfl (by decide) rfl ?_
        refine e_no rfl rfl (by decide) rfl ?_
        refine e_yes rfl rfl rfl ?_
        refine e_pickT rfl rfl rfl rfl ?_
        refine e_pickT rfl rfl rfl rfl ?_
        refine e_as (congrArg Value.bool (okn_b hok hlt)) ?_
        refine e_assign rfl rfl ?_
        refine e_nil ?_
        refine e_plain ?_
        refine e_add_i (q := 1) rfl rfl rfl (by omega) ?_
        refine e_move rfl rfl ?_
        refine e_nil ?_
        refine ⟨_, [(1, ptr r1), (2, ii 0), (4, .bool (okcd r a n && okh n h (i + 1))), (52, .agg (arr .u8 16 h)), (53, ii (i + 1))], [(0, some ⟨r1, cells 24 [pI .u64 2 r, pI .u64 2 p, pI .u64 3 a, pI .u8 16 h, pV (.int .i64 n)], 61⟩), (1, some ⟨r2, arr .u8 32 (fun j => if 0 ≤ j ∧ j < 0 + min (lw r).length 32 then (lw r).getD (j - 0) 0 else 0), 36⟩)], ?_, ⟨rfl, rfl, rfl, rfl, rfl, trivial⟩, ⟨rfl, rfl, trivial⟩, i + 1, rfl, rfl, rfl, by omega⟩
        omega
      · skip
        refine e_plain ?_
        refine e_move rfl rfl ?_
        refine e_as (congrArg Value.bool hok) ?_
        refine e_move rfl rfl ?_
        refine e_yes rfl rfl rfl ?_
        refine e_move rfl rfl ?_
        refine e_yes rfl rfl rfl ?_
        refine e_fld (23) und61 rfl siz3 rfl rfl rfl ?_
        refine e_yes rfl rfl rfl ?_
        refine e_ldV1 (i := 0) 4 und3 rfl rfl rfl rfl (by decide) rfl ⟨[], trivial⟩ ?_
        refine e_yes rfl rfl rfl ?_
        refine e_lt rfl rfl rfl ?_
        refine e_as (congrArg Value.bool (decide_eq_false hlt)) ?_
        refine e_yes rfl rfl rfl ?_
        refine e_move rfl rfl ?_
        refine e_yes rfl rfl rfl ?_
        refine e_move rfl rfl ?_
        refine e_yes rfl rfl rfl ?_
        refine e_eq rfl rfl rfl ?_
        refine e_yes rfl rfl rfl ?_
        refine e_pickF rfl rfl rfl rfl ?_
        refine e_pickT rfl rfl rfl rfl ?_
        refine e_as (congrArg Value.bool (okn_c hok hlt)) ?_
        refine e_assign rfl rfl ?_
        refine e_nil ?_
        refine e_plain ?_
        refine e_add_i (q := 1) rfl rfl rfl (by omega) ?_
        refine e_move rfl rfl ?_
        refine e_nil ?_
        refine ⟨_, [(1, ptr r1), (2, ii 0), (4, .bool (okcd r a n && okh n h (i + 1))), (52, .agg (arr .u8 16 h)), (53, ii (i + 1))], [(0, some ⟨r1, cells 24 [pI .u64 2 r, pI .u64 2 p, pI .u64 3 a, pI .u8 16 h, pV (.int .i64 n)], 61⟩), (1, some ⟨r2, arr .u8 32 (fun j => if 0 ≤ j ∧ j < 0 + min (lw r).length 32 then (lw r).getD (j - 0) 0 else 0), 36⟩)], ?_, ⟨rfl, rfl, rfl, rfl, rfl, trivial⟩, ⟨rfl, rfl, trivial⟩, i + 1, rfl, rfl, rfl, by omega⟩
        omega
    · intro hc0
      have hc0 := of_decide_eq_false hc0
      have hi16 : i = 16 := by omega
      subst hi16
      refine e_exit ?_
      refine e_seq ?_
      refine e_seq ?_
      refine e_plain ?_
      refine e_move rfl rfl ?_
      refine e_not rfl rfl ?_
      refine e_nil ?_
      refine e_cond rfl ?_ ?_
      · intro hc1
        have hfin : ¬ (okcd r a n && okh n h 16) = true := fun hx => by rw [hx] at hc1; exact absurd hc1 (by decide)
        refine e_seq ?_
        refine e_plain ?_
        refine e_assign rfl rfl ?_
        refine e_nil ?_
        refine e_ret ?_
        first | rw [if_pos hfin] | rw [if_neg hfin]
        exact ⟨_, rfl, .tmp rfl⟩
      · intro hc1
        have hfin : (okcd r a n && okh n h 16) = true := by simpa using hc1
        refine e_skip ?_
        refine e_seq ?_
        refine e_plain ?_
        refine e_assign rfl rfl ?_
        refine e_nil ?_
        refine e_ret ?_
        first | rw [if_pos hfin] | rw [if_neg hfin]
        exact ⟨_, rfl, .tmp rfl⟩
  · skip
    refine e_draw mixed (by kernel_rfl) ?_
    refine e_loadA (i := 1) und36 rfl siz36 rfl rfl (arr_size _ _ _) rfl ⟨[], trivial⟩ ?_
    refine e_as (congrArg Value.agg (arr_congr (kq_copy r))) ?_
    refine e_call rfl ent41 (begun_fn (kq r) (kq_lt r)) rfl rfl ?_
    refine e_fieldC 0 und61 rfl und58 rfl siz58 rfl rfl rfl (Nat.le_of_ble_eq_true rfl) rfl ?_
    refine e_fld (0) und61 rfl siz58 rfl rfl rfl ?_
    refine e_ldC (i := 0) 0 und58 rfl siz58 rfl rfl rfl (by decide) rfl ⟨[], trivial⟩ ?_
    refine e_eqA und58 und52 siz52 eqg58 rfl rfl rfl ?_
    refine e_as (congrArg Value.bool hk0) ?_
    refine e_move rfl rfl ?_
    refine e_yes rfl rfl rfl ?_
    refine e_fld (23) und61 rfl siz3 rfl rfl rfl ?_
    refine e_yes rfl rfl rfl ?_
    refine e_ldV1 (i := 0) 4 und3 rfl rfl rfl rfl (by decide) rfl ⟨[], trivial⟩ ?_
    refine e_yes rfl rfl rfl ?_
    refine e_ge rfl rfl rfl ?_
    refine e_as (congrArg Value.bool (decide_eq_true hk1)) ?_
    refine e_pickT rfl rfl rfl rfl ?_
    refine e_move rfl rfl ?_
    refine e_yes rfl rfl rfl ?_
    refine e_fld (23) und61 rfl siz3 rfl rfl rfl ?_
    refine e_yes rfl rfl rfl ?_
    refine e_ldV1 (i := 0) 4 und3 rfl rfl rfl rfl (by decide) rfl ⟨[], trivial⟩ ?_
    refine e_yes rfl rfl rfl ?_
    refine e_lt rfl rfl rfl ?_
    refine e_as (congrArg Value.bool (decide_eq_true hk2)) ?_
    refine e_pickT rfl rfl rfl rfl ?_
    refine e_move rfl rfl ?_
    refine e_yes rfl rfl rfl ?_
    refine e_fld (4) und61 rfl siz59 rfl rfl rfl ?_
    refine e_yes rfl rfl rfl ?_
    refine e_at (6) (j := 2) und59 siz52 rfl rfl (by omega) (by omega) rfl ?_
    refine e_yes rfl rfl rfl ?_
    refine e_ldI (i := 0) 2 (2) und52 rfl rfl rfl rfl rfl (by decide) (by decide) rfl ⟨[], trivial⟩ ?_
    refine e_yes rfl rfl rfl ?_
    refine e_lt rfl rfl rfl ?_
    refine e_as (congrArg Value.bool (decide_eq_true (by omega))) ?_
    refine e_pickT rfl rfl rfl rfl ?_
    refine e_move rfl rfl ?_
    refine e_yes rfl rfl rfl ?_
    refine e_fld (4) und61 rfl siz59 rfl rfl rfl ?_
    refine e_yes rfl rfl rfl ?_
    refine e_ldC (i := 0) 2 und59 rfl siz59 rfl rfl rfl (by decide) rfl ⟨[], trivial⟩ ?_
    refine e_yes rfl rfl rfl ?_
    refine e_call rfl ent58 (partsOf_fn a ha0 ha1 hk3) rfl rfl ?_
    refine e_yes rfl rfl rfl ?_
    refine e_call rfl ent59 (carried_fn _ (fun j _ => Nat.lt_trans (d26_lt _ j) (by decide))) rfl rfl ?_
    refine e_as (congrArg (fun z => p5 (z % QQ)) (self26 (w3_lt ha0 ha1 hk3))) ?_
    refine e_yes rfl rfl rfl ?_
    refine e_call rfl ent60 (whole_fn _ (mod_lt30 _)) rfl rfl ?_
    refine e_yes rfl rfl rfl ?_
    refine e_fld (4) und61 rfl siz59 rfl rfl rfl ?_
    refine e_yes rfl rfl rfl ?_
    refine e_ldC (i := 0) 2 und59 rfl siz59 rfl rfl rfl (by decide) rfl ⟨[], trivial⟩ ?_
    refine e_yes rfl rfl rfl ?_
    refine e_eqA und59 und52 siz52 eqg59 rfl rfl rfl ?_
    refine e_as (congrArg Value.bool hk4) ?_
    refine e_pickT rfl rfl rfl rfl ?_
    refine e_as (congrArg Value.bool (show false = okcd r a n from okbase (.inr (.inr (.inr (.inr (hk4))))))) ?_
    refine e_assign rfl rfl ?_
    refine e_nil ?_
    refine e_seq ?_
    refine e_seq ?_
    refine e_plain ?_
    refine e_fld (7) und61 rfl siz38 rfl rfl rfl ?_
    refine e_ldC (i := 0) 3 und38 rfl siz38 rfl rfl rfl (by decide) rfl ⟨[], trivial⟩ ?_
    refine e_move rfl rfl ?_
    refine e_nil ?_
    refine e_block ?_
    refine e_loop (fun kk E m => ∃ (i : Nat), kk = 16 - i ∧ E = [(1, ptr r1), (2, ii 0), (4, .bool (okcd r a n && okh n h i)), (52, .agg (arr .u8 16 h)), (53, ii i)] ∧ m = [(0, some ⟨r1, cells 24 [pI .u64 2 r, pI .u64 2 p, pI .u64 3 a, pI .u8 16 h, pV (.int .i64 n)], 61⟩), (1, some ⟨r2, arr .u8 32 (fun j => if 0 ≤ j ∧ j < 0 + min (lw r).length 32 then (lw r).getD (j - 0) 0 else 0), 36⟩)] ∧ (i ≤ 16)) [(1, ptr r1), (2, ii 0), (4, .bool (okcd r a n && okh n h 0)), (52, .agg (arr .u8 16 h)), (53, ii 0)] [(0, some ⟨r1, cells 24 [pI .u64 2 r, pI .u64 2 p, pI .u64 3 a, pI .u8 16 h, pV (.int .i64 n)], 61⟩), (1, some ⟨r2, arr .u8 32 (fun j => if 0 ≤ j ∧ j < 0 + min (lw r).length 32 then (lw r).getD (j - 0) 0 else 0), 36⟩)] (16 - 0) ⟨rfl, rfl, by rw [show okh n h 0 = true from rfl, Bool.and_true]; rfl, rfl, rfl, trivial⟩ ⟨rfl, rfl, trivial⟩ ⟨0, rfl, rfl, rfl, by omega⟩ ?_
    rintro kk E m ⟨i, rfl, rfl, rfl, hf0_0⟩
    refine e_seq ?_
    refine e_plain ?_
    refine e_lt rfl rfl rfl ?_
    refine e_nil ?_
    refine e_seq ?_
    refine e_cond rfl ?_ ?_
    · intro hc0
      have hc0 := of_decide_eq_true hc0
      refine e_skip ?_
      refine e_seq ?_
      refine e_block ?_
      refine e_seq ?_
      refine e_plain ?_
      refine e_move rfl rfl ?_
      refine e_idx und38 und5 siz5 rfl rfl (by omega) rfl ?_
      refine e_assign rfl rfl ?_
      refine e_assign rfl rfl ?_
      refine e_nil ?_
      rcases okcase2 (okcd r a n) n h i with hok | ⟨hok, hlt⟩ | ⟨hok, hlt⟩
      · skip
        refine e_plain ?_
        refine e_move rfl rfl ?_
        refine e_as (congrArg Value.bool hok) ?_
        refine e_move rfl rfl ?_
        refine e_no rfl rfl (by decide) rfl ?_
        refine e_no rfl rfl (by decide) rfl ?_
        refine e_no rfl rfl (by decide) rfl ?_
        refine e_no rfl rfl (by decide) rfl ?_
        refine e_no rfl rfl (by decide) rfl ?_
        refine e_no2 rfl rfl rfl ?_
        refine e_no2 rfl rfl rfl ?_
        refine e_no rfl rfl (by decide) rfl ?_
        refine e_pickF rfl rfl rfl rfl ?_
        refine e_as (congrArg Value.bool (okn_a hok)) ?_
        refine e_assign rfl rfl ?_
        refine e_nil ?_
        refine e_plain ?_
        refine e_add_i (q := 1) rfl rfl rfl (by omega) ?_
        refine e_move rfl rfl ?_
        refine e_nil ?_
        refine ⟨_, [(1, ptr r1), (2, ii 0), (4, .bool (okcd r a n && okh n h (i + 1))), (52, .agg (arr .u8 16 h)), (53, ii (i + 1))], [(0, some ⟨r1, cells 24 [pI .u64 2 r, pI .u64 2 p, pI .u64 3 a, pI .u8 16 h, pV (.int .i64 n)], 61⟩), (1, some ⟨r2, arr .u8 32 (fun j => if 0 ≤ j ∧ j < 0 + min (lw r).length 32 then (lw r).getD (j - 0) 0 else 0), 36⟩)], ?_, ⟨rfl, rfl, rfl, rfl, rfl, trivial⟩, ⟨rfl, rfl, trivial⟩, i + 1, rfl, rfl, rfl, by omega⟩
        omega
      · skip
        refine e_plain ?_
        refine e_move rfl rfl ?_
        refine e_as (congrArg Value.bool hok) ?_
        refine e_move rfl rfl ?_
        refine e_yes rfl rfl rfl ?_
        refine e_move rfl rfl ?_
        refine e_yes rfl rfl rfl ?_
        refine e_fld (23) und61 rfl siz3 rfl rfl rfl ?_
        refine e_yes rfl rfl rfl ?_
        refine e_ldV1 (i := 0) 4 und3 rfl rfl rfl rfl (by decide) rfl ⟨[], trivial⟩ ?_
        refine e_yes rfl rfl rfl ?_
        refine e_lt rfl rfl rfl ?_
        refine e_as (congrArg Value.bool (decide_eq_true hlt)) ?_
        refine e_yes rfl rfl rfl ?_
        refine e_move rfl rfl ?_
        refine e_no rfl rfl (by decide) rfl ?_
        refine e_no rfl rfl (by decide) rfl ?_
        refine e_yes rfl rfl rfl ?_
        refine e_pickT rfl rfl rfl rfl ?_
        refine e_pickT rfl rfl rfl rfl ?_
        refine e_as (congrArg Value.bool (okn_b hok hlt)) ?_
        refine e_assign rfl rfl ?_
        refine e_nil ?_
        refine e_plain ?_
        refine e_add_i (q := 1) rfl rfl rfl (by omega) ?_
        refine e_move rfl rfl ?_
        refine e_nil ?_
        refine ⟨_, [(1, ptr r1), (2, ii 0), (4, .bool (okcd r a n && okh n h (i + 1))), (52, .agg (arr .u8 16 h)), (53, ii (i + 1))], [(0, some ⟨r1, cells 24 [pI .u64 2 r, pI .u64 2 p, pI .u64 3 a, pI .u8 16 h, pV (.int .i64 n)], 61⟩), (1, some ⟨r2, arr .u8 32 (fun j => if 0 ≤ j ∧ j < 0 + min (lw r).length 32 then (lw r).getD (j - 0) 0 else 0), 36⟩)], ?_, ⟨rfl, rfl, rfl, rfl, rfl, trivial⟩, ⟨rfl, rfl, trivial⟩, i + 1, rfl, rfl, rfl, by omega⟩
        omega
      · skip
        refine e_plain ?_
        refine e_move rfl rfl ?_
        refine e_as (congrArg Value.bool hok) ?_
        refine e_move rfl rfl ?_
        refine e_yes rfl rfl rfl ?_
        refine e_move rfl rfl ?_
        refine e_yes rfl rfl rfl ?_
        refine e_fld (23) und61 rfl siz3 rfl rfl rfl ?_
        refine e_yes rfl rfl rfl ?_
        refine e_ldV1 (i := 0) 4 und3 rfl rfl rfl rfl (by decide) rfl ⟨[], trivial⟩ ?_
        refine e_yes rfl rfl rfl ?_
        refine e_lt rfl rfl rfl ?_
        refine e_as (congrArg Value.bool (decide_eq_false hlt)) ?_
        refine e_yes rfl rfl rfl ?_
        refine e_move rfl rfl ?_
        refine e_yes rfl rfl rfl ?_
        refine e_move rfl rfl ?_
        refine e_yes rfl rfl rfl ?_
        refine e_eq rfl rfl rfl ?_
        refine e_yes rfl rfl rfl ?_
        refine e_pickF rfl rfl rfl rfl ?_
        refine e_pickT rfl rfl rfl rfl ?_
        refine e_as (congrArg Value.bool (okn_c hok hlt)) ?_
        refine e_assign rfl rfl ?_
        refine e_nil ?_
        refine e_plain ?_
        refine e_add_i (q := 1) rfl rfl rfl (by omega) ?_
        refine e_move rfl rfl ?_
        refine e_nil ?_
        refine ⟨_, [(1, ptr r1), (2, ii 0), (4, .bool (okcd r a n && okh n h (i + 1))), (52, .agg (arr .u8 16 h)), (53, ii (i + 1))], [(0, some ⟨r1, cells 24 [pI .u64 2 r, pI .u64 2 p, pI .u64 3 a, pI .u8 16 h, pV (.int .i64 n)], 61⟩), (1, some ⟨r2, arr .u8 32 (fun j => if 0 ≤ j ∧ j < 0 + min (lw r).length 32 then (lw r).getD (j - 0) 0 else 0), 36⟩)], ?_, ⟨rfl, rfl, rfl, rfl, rfl, trivial⟩, ⟨rfl, rfl, trivial⟩, i + 1, rfl, rfl, rfl, by omega⟩
        omega
    · intro hc0
      have hc0 := of_decide_eq_false hc0
      have hi16 : i = 16 := by omega
      subst hi16
      refine e_exit ?_
      refine e_seq ?_
      refine e_seq ?_
      refine e_plain ?_
      refine e_move rfl rfl ?_
      refine e_not rfl rfl ?_
      refine e_nil ?_
      refine e_cond rfl ?_ ?_
      · intro hc1
        have hfin : ¬ (okcd r a n && okh n h 16) = true := fun hx => by rw [hx] at hc1; exact absurd hc1 (by decide)
        refine e_seq ?_
        refine e_plain ?_
        refine e_assign rfl rfl ?_
        refine e_nil ?_
        refine e_ret ?_
        first | rw [if_pos hfin] | rw [if_neg hfin]
        exact ⟨_, rfl, .tmp rfl⟩
      · intro hc1
        have hfin : (okcd r a n && okh n h 16) = true := by simpa using hc1
        refine e_skip ?_
        refine e_seq ?_
        refine e_plain ?_
        refine e_assign rfl rfl ?_
        refine e_nil ?_
        refine e_ret ?_
        first | rw [if_pos hfin] | rw [if_neg hfin]
        exact ⟨_, rfl, .tmp rfl⟩
  · skip
    refine e_draw mixed (by kernel_rfl) ?_
    refine e_loadA (i := 1) und36 rfl siz36 rfl rfl (arr_size _ _ _) rfl ⟨[], trivial⟩ ?_
    refine e_as (congrArg Value.agg (arr_congr (kq_copy r))) ?_
    refine e_call rfl ent41 (begun_fn (kq r) (kq_lt r)) rfl rfl ?_
    refine e_fieldC 0 und61 rfl und58 rfl siz58 rfl rfl rfl (Nat.le_of_ble_eq_true rfl) rfl ?_
    refine e_fld (0) und61 rfl siz58 rfl rfl rfl ?_
    refine e_ldC (i := 0) 0 und58 rfl siz58 rfl rfl rfl (by decide) rfl ⟨[], trivial⟩ ?_
    refine e_eqA und58 und52 siz52 eqg58 rfl rfl rfl ?_
    refine e_as (congrArg Value.bool hk0) ?_
    refine e_move rfl rfl ?_
    refine e_yes rfl rfl rfl ?_
    refine e_fld (23) und61 rfl siz3 rfl rfl rfl ?_
    refine e_yes rfl rfl rfl ?_
    refine e_ldV1 (i := 0) 4 und3 rfl rfl rfl rfl (by decide) rfl ⟨[], trivial⟩ ?_
    refine e_yes rfl rfl rfl ?_
    refine e_ge rfl rfl rfl ?_
    refine e_as (congrArg Value.bool (decide_eq_true hk1)) ?_
    refine e_pickT rfl rfl rfl rfl ?_
    refine e_move rfl rfl ?_
    refine e_yes rfl rfl rfl ?_
    refine e_fld (23) und61 rfl siz3 rfl rfl rfl ?_
    refine e_yes rfl rfl rfl ?_
    refine e_ldV1 (i := 0) 4 und3 rfl rfl rfl rfl (by decide) rfl ⟨[], trivial⟩ ?_
    refine e_yes rfl rfl rfl ?_
    refine e_lt rfl rfl rfl ?_
    refine e_as (congrArg Value.bool (decide_eq_true hk2)) ?_
    refine e_pickT rfl rfl rfl rfl ?_
    refine e_move rfl rfl ?_
    refine e_yes rfl rfl rfl ?_
    refine e_fld (4) und61 rfl siz59 rfl rfl rfl ?_
    refine e_yes rfl rfl rfl ?_
    refine e_at (6) (j := 2) und59 siz52 rfl rfl (by omega) (by omega) rfl ?_
    refine e_yes rfl rfl rfl ?_
    refine e_ldI (i := 0) 2 (2) und52 rfl rfl rfl rfl rfl (by decide) (by decide) rfl ⟨[], trivial⟩ ?_
    refine e_yes rfl rfl rfl ?_
    refine e_lt rfl rfl rfl ?_
    refine e_as (congrArg Value.bool (decide_eq_true (by omega))) ?_
    refine e_pickT rfl rfl rfl rfl ?_
    refine e_move rfl rfl ?_
    refine e_yes rfl rfl rfl ?_
    refine e_fld (4) und61 rfl siz59 rfl rfl rfl ?_
    refine e_yes rfl rfl rfl ?_
    refine e_ldC (i := 0) 2 und59 rfl siz59 rfl rfl rfl (by decide) rfl ⟨[], trivial⟩ ?_
    refine e_yes rfl rfl rfl ?_
    refine e_call rfl ent58 (partsOf_fn a ha0 ha1 hk3) rfl rfl ?_
    refine e_yes rfl rfl rfl ?_
    refine e_call rfl ent59 (carried_fn _ (fun j _ => Nat.lt_trans (d26_lt _ j) (by decide))) rfl rfl ?_
    refine e_as (congrArg (fun z => p5 (z % QQ)) (self26 (w3_lt ha0 ha1 hk3))) ?_
    refine e_yes rfl rfl rfl ?_
    refine e_call rfl ent60 (whole_fn _ (mod_lt30 _)) rfl rfl ?_
    refine e_yes rfl rfl rfl ?_
    refine e_fld (4) und61 rfl siz59 rfl rfl rfl ?_
    refine e_yes rfl rfl rfl ?_
    refine e_ldC (i := 0) 2 und59 rfl siz59 rfl rfl rfl (by decide) rfl ⟨[], trivial⟩ ?_
    refine e_yes rfl rfl rfl ?_
    refine e_eqA und59 und52 siz52 eqg59 rfl rfl rfl ?_
    refine e_as (congrArg Value.bool hk4) ?_
    refine e_pickT rfl rfl rfl rfl ?_
    refine e_as (congrArg Value.bool (ok_all hk0 hk1 hk2 hk3 hk4)) ?_
    refine e_assign rfl rfl ?_
    refine e_nil ?_
    refine e_seq ?_
    refine e_seq ?_
    refine e_plain ?_
    refine e_fld (7) und61 rfl siz38 rfl rfl rfl ?_
    refine e_ldC (i := 0) 3 und38 rfl siz38 rfl rfl rfl (by decide) rfl ⟨[], trivial⟩ ?_
    refine e_move rfl rfl ?_
    refine e_nil ?_
    refine e_block ?_
    refine e_loop (fun kk E m => ∃ (i : Nat), kk = 16 - i ∧ E = [(1, ptr r1), (2, ii 0), (4, .bool (okcd r a n && okh n h i)), (52, .agg (arr .u8 16 h)), (53, ii i)] ∧ m = [(0, some ⟨r1, cells 24 [pI .u64 2 r, pI .u64 2 p, pI .u64 3 a, pI .u8 16 h, pV (.int .i64 n)], 61⟩), (1, some ⟨r2, arr .u8 32 (fun j => if 0 ≤ j ∧ j < 0 + min (lw r).length 32 then (lw r).getD (j - 0) 0 else 0), 36⟩)] ∧ (i ≤ 16)) [(1, ptr r1), (2, ii 0), (4, .bool (okcd r a n && okh n h 0)), (52, .agg (arr .u8 16 h)), (53, ii 0)] [(0, some ⟨r1, cells 24 [pI .u64 2 r, pI .u64 2 p, pI .u64 3 a, pI .u8 16 h, pV (.int .i64 n)], 61⟩), (1, some ⟨r2, arr .u8 32 (fun j => if 0 ≤ j ∧ j < 0 + min (lw r).length 32 then (lw r).getD (j - 0) 0 else 0), 36⟩)] (16 - 0) ⟨rfl, rfl, by rw [show okh n h 0 = true from rfl, Bool.and_true]; rfl, rfl, rfl, trivial⟩ ⟨rfl, rfl, trivial⟩ ⟨0, rfl, rfl, rfl, by omega⟩ ?_
    rintro kk E m ⟨i, rfl, rfl, rfl, hf0_0⟩
    refine e_seq ?_
    refine e_plain ?_
    refine e_lt rfl rfl rfl ?_
    refine e_nil ?_
    refine e_seq ?_
    refine e_cond rfl ?_ ?_
    · intro hc0
      have hc0 := of_decide_eq_true hc0
      refine e_skip ?_
      refine e_seq ?_
      refine e_block ?_
      refine e_seq ?_
      refine e_plain ?_
      refine e_move rfl rfl ?_
      refine e_idx und38 und5 siz5 rfl rfl (by omega) rfl ?_
      refine e_assign rfl rfl ?_
      refine e_assign rfl rfl ?_
      refine e_nil ?_
      rcases okcase2 (okcd r a n) n h i with hok | ⟨hok, hlt⟩ | ⟨hok, hlt⟩
      · skip
        refine e_plain ?_
        refine e_move rfl rfl ?_
        refine e_as (congrArg Value.bool hok) ?_
        refine e_move rfl rfl ?_
        refine e_no rfl rfl (by decide) rfl ?_
        refine e_no rfl rfl (by decide) rfl ?_
        refine e_no rfl rfl (by decide) rfl ?_
        refine e_no rfl rfl (by decide) rfl ?_
        refine e_no rfl rfl (by decide) rfl ?_
        refine e_no2 rfl rfl rfl ?_
        refine e_no2 rfl rfl rfl ?_
        refine e_no rfl rfl (by decide) rfl ?_
        refine e_pickF rfl rfl rfl rfl ?_
        refine e_as (congrArg Value.bool (okn_a hok)) ?_
        refine e_assign rfl rfl ?_
        refine e_nil ?_
        refine e_plain ?_
        refine e_add_i (q := 1) rfl rfl rfl (by omega) ?_
        refine e_move rfl rfl ?_
        refine e_nil ?_
        refine ⟨_, [(1, ptr r1), (2, ii 0), (4, .bool (okcd r a n && okh n h (i + 1))), (52, .agg (arr .u8 16 h)), (53, ii (i + 1))], [(0, some ⟨r1, cells 24 [pI .u64 2 r, pI .u64 2 p, pI .u64 3 a, pI .u8 16 h, pV (.int .i64 n)], 61⟩), (1, some ⟨r2, arr .u8 32 (fun j => if 0 ≤ j ∧ j < 0 + min (lw r).length 32 then (lw r).getD (j - 0) 0 else 0), 36⟩)], ?_, ⟨rfl, rfl, rfl, rfl, rfl, trivial⟩, ⟨rfl, rfl, trivial⟩, i + 1, rfl, rfl, rfl, by omega⟩
        omega
      · skip
        refine e_plain ?_
        refine e_move rfl rfl ?_
        refine e_as (congrArg Value.bool hok) ?_
        refine e_move rfl rfl ?_
        refine e_yes rfl rfl rfl ?_
        refine e_move rfl rfl ?_
        refine e_yes rfl rfl rfl ?_
        refine e_fld (23) und61 rfl siz3 rfl rfl rfl ?_
        refine e_yes rfl rfl rfl ?_
        refine e_ldV1 (i := 0) 4 und3 rfl rfl rfl rfl (by decide) rfl ⟨[], trivial⟩ ?_
        refine e_yes rfl rfl rfl ?_
        refine e_lt rfl rfl rfl ?_
        refine e_as (congrArg Value.bool (decide_eq_true hlt)) ?_
        refine e_yes rfl rfl rfl ?_
        refine e_move rfl rfl ?_
        refine e_no rfl rfl (by decide) rfl ?_
        refine e_no rfl rfl (by decide) rfl ?_
        refine e_yes rfl rfl rfl ?_
        refine e_pickT rfl rfl rfl rfl ?_
        refine e_pickT rfl rfl rfl rfl ?_
        refine e_as (congrArg Value.bool (okn_b hok hlt)) ?_
        refine e_assign rfl rfl ?_
        refine e_nil ?_
        refine e_plain ?_
        refine e_add_i (q := 1) rfl rfl rfl (by omega) ?_
        refine e_move rfl rfl ?_
        refine e_nil ?_
        refine ⟨_, [(1, ptr r1), (2, ii 0), (4, .bool (okcd r a n && okh n h (i + 1))), (52, .agg (arr .u8 16 h)), (53, ii (i + 1))], [(0, some ⟨r1, cells 24 [pI .u64 2 r, pI .u64 2 p, pI .u64 3 a, pI .u8 16 h, pV (.int .i64 n)], 61⟩), (1, some ⟨r2, arr .u8 32 (fun j => if 0 ≤ j ∧ j < 0 + min (lw r).length 32 then (lw r).getD (j - 0) 0 else 0), 36⟩)], ?_, ⟨rfl, rfl, rfl, rfl, rfl, trivial⟩, ⟨rfl, rfl, trivial⟩, i + 1, rfl, rfl, rfl, by omega⟩
        omega
      · skip
        refine e_plain ?_
        refine e_move rfl rfl ?_
        refine e_as (congrArg Value.bool hok) ?_
        refine e_move rfl rfl ?_
        refine e_yes rfl rfl rfl ?_
        refine e_move rfl rfl ?_
        refine e_yes rfl rfl rfl ?_
        refine e_fld (23) und61 rfl siz3 rfl rfl rfl ?_
        refine e_yes rfl rfl rfl ?_
        refine e_ldV1 (i := 0) 4 und3 rfl rfl rfl rfl (by decide) rfl ⟨[], trivial⟩ ?_
        refine e_yes rfl rfl rfl ?_
        refine e_lt rfl rfl rfl ?_
        refine e_as (congrArg Value.bool (decide_eq_false hlt)) ?_
        refine e_yes rfl rfl rfl ?_
        refine e_move rfl rfl ?_
        refine e_yes rfl rfl rfl ?_
        refine e_move rfl rfl ?_
        refine e_yes rfl rfl rfl ?_
        refine e_eq rfl rfl rfl ?_
        refine e_yes rfl rfl rfl ?_
        refine e_pickF rfl rfl rfl rfl ?_
        refine e_pickT rfl rfl rfl rfl ?_
        refine e_as (congrArg Value.bool (okn_c hok hlt)) ?_
        refine e_assign rfl rfl ?_
        refine e_nil ?_
        refine e_plain ?_
        refine e_add_i (q := 1) rfl rfl rfl (by omega) ?_
        refine e_move rfl rfl ?_
        refine e_nil ?_
        refine ⟨_, [(1, ptr r1), (2, ii 0), (4, .bool (okcd r a n && okh n h (i + 1))), (52, .agg (arr .u8 16 h)), (53, ii (i + 1))], [(0, some ⟨r1, cells 24 [pI .u64 2 r, pI .u64 2 p, pI .u64 3 a, pI .u8 16 h, pV (.int .i64 n)], 61⟩), (1, some ⟨r2, arr .u8 32 (fun j => if 0 ≤ j ∧ j < 0 + min (lw r).length 32 then (lw r).getD (j - 0) 0 else 0), 36⟩)], ?_, ⟨rfl, rfl, rfl, rfl, rfl, trivial⟩, ⟨rfl, rfl, trivial⟩, i + 1, rfl, rfl, rfl, by omega⟩
        omega
    · intro hc0
      have hc0 := of_decide_eq_false hc0
      have hi16 : i = 16 := by omega
      subst hi16
      refine e_exit ?_
      refine e_seq ?_
      refine e_seq ?_
      refine e_plain ?_
      refine e_move rfl rfl ?_
      refine e_not rfl rfl ?_
      refine e_nil ?_
      refine e_cond rfl ?_ ?_
      · intro hc1
        have hfin : ¬ (okcd r a n && okh n h 16) = true := fun hx => by rw [hx] at hc1; exact absurd hc1 (by decide)
        refine e_seq ?_
        refine e_plain ?_
        refine e_assign rfl rfl ?_
        refine e_nil ?_
        refine e_ret ?_
        first | rw [if_pos hfin] | rw [if_neg hfin]
        exact ⟨_, rfl, .tmp rfl⟩
      · intro hc1
        have hfin : (okcd r a n && okh n h 16) = true := by simpa using hc1
        refine e_skip ?_
        refine e_seq ?_
        refine e_plain ?_
        refine e_assign rfl rfl ?_
        refine e_nil ?_
        refine e_ret ?_
        first | rw [if_pos hfin] | rw [if_neg hfin]
        exact ⟨_, rfl, .tmp rfl⟩

end Go.Proofs.Ytoalabpbohkcjaa

/-
  Bytes of a string copied into a part of a struct; a struct against itself.
-/
namespace Go.Proofs.Ytoalabpbohkcjaa
open Go Go.RowKit

theorem cat_putp {ps : List Part} {k o l kk : Nat} {F : Nat → Value} (A : Nat → Value) (h : catAt ps k = some (o, l, F)) (hk : kk ≤ l) (i : Nat) : putv (catF ps) o kk A i = catF (catSet ps k (putv F 0 kk A)) i := by
  rw [← cat_put _ h i]
  unfold putv
  by_cases h1 : o ≤ i ∧ i < o + kk
  · rw [if_pos h1, if_pos (by omega)]
    show A (i - o) = if 0 ≤ i - o ∧ i - o < 0 + kk then A (i - o - 0) else F (i - o)
    rw [if_pos (by omega), Nat.sub_zero]
  · rw [if_neg h1]
    by_cases h2 : o ≤ i ∧ i < o + l
    · rw [if_pos h2]
      show catF ps i = if 0 ≤ i - o ∧ i - o < 0 + kk then A (i - o - 0) else F (i - o)
      rw [if_neg (by omega)]
      have := cat_part h (i - o) (by omega)
      rw [← this]; congr 1; omega
    · rw [if_neg h2]
theorem putv_bytes (f : Nat → Nat) (kk : Nat) (l : List Nat) : putv (fun i => .int .u8 (f i : Int)) 0 kk (fun j => by8 (l.getD j 0)) = fun i => .int .u8 ((if i < kk then l.getD i 0 else f i : Nat) : Int) := by
  funext i
  unfold putv
  by_cases h : i < kk
  · rw [if_pos (by omega), if_pos h, Nat.sub_zero]
  · rw [if_neg (by omega), if_neg h]
theorem take_arrv (l : List Nat) (k : Nat) (h : k ≤ l.length) : (l.take k).map by8 = (arrv k (fun j => by8 (l.getD j 0))).toList := by
  apply List.ext_getElem
  · simp [arrv]; omega
  · intro j h1 h2
    have hj : j < l.length := by
      have h3 := h1
      rw [List.length_map, List.length_take] at h3
      omega
    simp [arrv, List.getD, hj]
section
variable {P : Program} {G : Mem} {R : Reg} {ops : Array Oper} {K : Act → Mem → Prop} {rest : List Oper} {a : Act} {m : Mem} {d : Option Tmp} {ty : TypeId} {pos : String} {aft : Array Edge}
variable {T T' : TypeId} {x y : Operand}
theorem st_copyV {e : TypeId} {b o N dl cap i : Nat} {F : Nat → Value} {t : TypeId} {l : List Nat} (hT : P.underlying T = some (.slice e)) (hs : (P.info? e).map (·.size) = some 1) (hx : a.eval x = .slice (some ⟨b, o, none⟩) dl cap) (hy : a.eval y = sv l) (hl : ∀ n ∈ l, n < 256)
    (hm : m[i]? = some ⟨b, arrv N F, t⟩) (ho : o + dl ≤ N)
    (h : ∀ lr, List.Perm m (⟨b, arrv N F, t⟩ :: lr) → opsM P G R ops K rest (a.put d (ii (min l.length dl))) (⟨b, arrv N (putv F o (min l.length dl) (fun j => by8 (l.getD j 0))), t⟩ :: lr)) : opsM P G R ops K (⟨d, .call ⟨.builtin .copy, #[x, y], #[T, T']⟩, ty, pos, aft, none⟩ :: rest) a m := by
  have hmem : (⟨b, arrv N F, t⟩ : Blk) ∈ m := mem_of_get hm
  obtain ⟨l1, l2, hml⟩ := List.append_of_mem hmem
  have hp : List.Perm m (⟨b, arrv N F, t⟩ :: (l1 ++ l2)) := by rw [hml]; exact List.perm_middle
  obtain ⟨c', hc'⟩ : ∃ c', c' = arrv N (putv F o (min l.length dl) (fun j => by8 (l.getD j 0))) := ⟨_, rfl⟩
  refine .inr ⟨rfl, ?_⟩
  show coreM _ _ _ _ _ _ _ 5
  refine ⟨[⟨b, arrv N F, t⟩], l1 ++ l2, fun v r1 nw => v = ii (min l.length dl) ∧ r1 = [⟨b, c', t⟩] ∧ nw = [], by simpa using hp, ⟨_, _, _, ⟨rfl, rfl, rfl⟩, by simp, by simp⟩, ?_, ?_, ?_⟩
  · rintro v r1 nw ⟨_, rfl, _⟩; rfl
  · intro w _ hw _
    have hin := hw _ hmem
    refine .inl ⟨_, _, _, w.setRow b c', ?_, ⟨rfl, rfl, rfl⟩, post_row hin (by rw [hc', arrv_size, arrv_size])⟩
    cases hi : P.info? e with
    | none => simp [hi] at hs
    | some k =>
      have hsz : k.size = 1 := by simpa [hi] using hs
      have hf : (Builtin.firstCells 1 (min l.length dl) (sv l)).run P w = .ok ((l.take (min l.length dl)).map by8).toArray w := by
        simp only [Builtin.firstCells]
        rw [bstr_cut]
        simp only [Sem.run_pure, List.drop_zero, Nat.sub_zero]
        congr 1
        unfold bstr
        apply Array.ext'
        simp only [Array.toList_map, List.map_map]
        exact List.map_congr_left fun n hn => by
          have := hl n (List.mem_of_mem_take hn)
          simp
          omega
      have hst := run_storeCells_in (P := P) b o t ((l.take (min l.length dl)).map by8) 0 (arrv N F) w hin (by simp [arrv_size]; omega) (fun v hv => by
        obtain ⟨n, _, rfl⟩ := List.mem_map.1 hv; rfl)
      have hlen : ((l.take (min l.length dl)).map by8).length = min l.length dl := by simp
      rw [hlen, Nat.add_zero, take_arrv l _ (by omega), arrv_put N o _ F _ (by omega), ← hc', ← take_arrv l _ (by omega)] at hst
      generalize (l.take (min l.length dl)).map by8 = vs at hf hst
      have hmin : Nat.min l.length dl = min l.length dl := rfl
      simp only [execOp, resolve, invoke, builtin, Sem.run_bind, Sem.run_pure, Result.andThen_ok, List.map_toArray, List.map_cons, List.map_nil, hx, hy]
      simp [Builtin.copy_, run_underlying hT, Builtin.lenOf, bstr_size, sizeOf, typeInfo, hi, hsz, hmin, hf, hst, goInt]
  · rintro v r1 nw ⟨rfl, rfl, rfl⟩ _
    rw [hc']
    simpa using h (l1 ++ l2) hp
end
section
variable {P : Program} {G : Mem} {R : Reg} {ops : Array Oper} {n : Nat} {K : Env → Mm → Prop} {rest : List Oper} {E : Env} {M : Mm} {d : Nat} {ty : TypeId} {pos : String} {aft : Array Edge}
variable {T T' : TypeId} {x y : Operand}
/-- Bytes are copied into a part that is a row of bytes. -/
theorem e_copyC (k : Nat) {e : TypeId} {b o N dl cap i L : Nat} {f : Nat → Nat} {ps : List Part} {t : TypeId} {l : List Nat} (hT : P.underlying T = some (.slice e)) (hs : (P.info? e).map (·.size) = some 1) (hx : rd E x = some (.slice (some ⟨b, o, none⟩) dl cap)) (hy : rd E y = some (sv l)) (hl : ∀ q ∈ l, q < 256)
    (hm : lkM M i = some ⟨b, cells N ps, t⟩) (hk : catAt ps k = some (o, pI .u8 L f)) (hL : dl ≤ L) (ho : o + dl ≤ N) (hd : Nat.blt d n = true)
    (h : OpsE P G R ops n K rest ((d, ii (min l.length dl)) :: E) ((i, some ⟨b, cells N (catSet ps k (fun i => .int .u8 ((if i < min l.length dl then l.getD i 0 else f i : Nat) : Int))), t⟩) :: M)) : OpsE P G R ops n K (⟨some d, .call ⟨.builtin .copy, #[x, y], #[T, T']⟩, ty, pos, aft, none⟩ :: rest) E M :=
  fun _ _ ha hM => by
    obtain ⟨kk, hkk⟩ := hM.at hm
    refine st_copyV hT hs (ha.rd hx) (ha.rd hy) hl hkk ho fun lr hp => ?_
    rw [funext (cat_putp _ hk (by omega)), putv_bytes]
    exact h _ _ (ha.put hd _) (hM.same (oz' := some _) hm (by simpa using hp) rfl)
end

/-! ### A value against itself -/
/-- == of a value with itself says true. -/
def Same (P : Program) (dp : Nat) (t : TypeId) (v : Value) : Prop := ∀ w, (Op.equalIn dp t v v).run P w = .ok true w
section
variable {P : Program}
theorem same_int {dp : Nat} {t : TypeId} {k k' : IntKind} {z : Int} (h : P.underlying t = some (.int k')) : Same P (dp + 1) t (.int k z) := fun w => by rw [run_equalIn_int w dp t k k' z z h]; simp
theorem same_bool {dp : Nat} {t : TypeId} {z : Bool} (h : P.underlying t = some .bool) : Same P (dp + 1) t (.bool z) := fun w => by rw [run_equalIn_bool' w dp t z z h]; simp
theorem same_str {dp : Nat} {t : TypeId} {z : ByteArray} (h : P.underlying t = some .string) : Same P (dp + 1) t (.string z) := fun w => by rw [run_equalIn_string w dp t z z h]; simp
theorem same_arr {dp : Nat} {t e : TypeId} {k k' : IntKind} {l : Nat} {f : Nat → Nat} (hT : P.underlying t = some (.array l e)) (he : P.underlying e = some (.int k')) (hs : (P.info? e).map (·.size) = some 1) : Same P (dp + 2) t (.agg (arr k l f)) := fun w => by
  rw [run_equalArr hT he hs w]
  congr 1
  exact allEq_iff.2 fun _ _ => rfl
/-- The part of a struct that a field shows. -/
def Shown (P : Program) (ps : List Part) (N : Nat) (f : Field) (v : Value) : Prop := ∀ w, (part f.type (cells N ps) f.offset).run P w = .ok v w
theorem shown_row {ps : List Part} {N k o l : Nat} {kd : IntKind} {g : Nat → Nat} {f : Field} {td : TypeDesc} (he : P.underlying f.type = some td) (hn : rowLike td = true) (hs : (P.info? f.type).map (·.size) = some l) (hk : catAt ps k = some (o, pI kd l g)) (ho : f.offset = o) (hN : o + l ≤ N) : Shown P ps N f (.agg (arr kd l g)) := fun w => by
  cases hi : P.info? f.type with
  | none => simp [hi] at hs
  | some i =>
    have hsz : i.size = l := by simpa [hi] using hs
    have he2 : (cells N ps).extract o (o + l) = arr kd l g := by rw [cells, arrv_part N o l _ hN, arrv_congr (fun t ht => cat_part hk t ht), ← arr_arrv]
    unfold part
    simp only [Sem.run_bind, run_isAgg he, Result.andThen_ok, hn, if_true, sizeOf, typeInfo, ho]
    simp [hi, hsz, he2]
theorem shown_one {ps : List Part} {N k o : Nat} {v : Value} {f : Field} {td : TypeDesc} (he : P.underlying f.type = some td) (hn : rowLike td = false) (hk : catAt ps k = some (o, pV v)) (ho : f.offset = o) (hN : o < N) : Shown P ps N f v := fun w => by
  have h1 := cat_part hk 0 (by decide)
  rw [Nat.add_zero] at h1
  unfold part
  simp only [Sem.run_bind, run_isAgg he, Result.andThen_ok, hn, ho, cells, arrv_get hN, h1]
  simp
theorem same_fields {dp : Nat} {ps : List Part} {N : Nat} : ∀ fs : List Field, (∀ f ∈ fs, ∃ v, Shown P ps N f v ∧ Same P dp f.type v) → ∀ w, (Op.eqFields dp (cells N ps) (cells N ps) fs).run P w = .ok true w
  | [], _, w => by simp [Op.eqFields]
  | f :: fs, h, w => by
    have ih := same_fields fs (fun g hg => h g (by simp [hg])) w
    obtain ⟨v, h1, h2⟩ := h f (by simp)
    simp only [Op.eqFields]
    split
    · simp only [Sem.run_bind, h1 w, Result.andThen_ok, h2 w]
      simpa using ih
    · exact ih
theorem same_struct {dp : Nat} {t : TypeId} {ps : List Part} {N : Nat} {fs : Array Field} (ht : P.underlying t = some (.struct fs)) (hp : P.stoodInHeld t = false) (h : ∀ f ∈ fs.toList, ∃ v, Shown P ps N f v ∧ Same P dp f.type v) : Same P (dp + 1) t (.agg (cells N ps)) := fun w => by
  have hf : P.fieldsOf t = fs := by simp [Program.fieldsOf, ht]
  rw [run_equalIn_struct w dp t _ _ (by rw [hf]; exact ht) hp, hf]
  exact same_fields fs.toList h w
end
section
variable {P : Program} {G : Mem} {R : Reg} {ops : Array Oper} {n : Nat} {K : Env → Mm → Prop} {rest : List Oper} {E : Env} {M : Mm} {d : Nat} {ty : TypeId} {pos : String} {aft : Array Edge}
variable {T T' : TypeId} {x y : Operand}
theorem e_eqSame {c : Array Value} (hs : Same P 10000 T (.agg c)) (hg : P.eqGuardType P.depth T = false) (hx : rd E x = some (.agg c)) (hy : rd E y = some (.agg c)) (hd : Nat.blt d n = true) (h : OpsE P G R ops n K rest ((d, .bool true) :: E) M) : OpsE P G R ops n K (⟨some d, .binOp .eql T x y T', ty, pos, aft, none⟩ :: rest) E M :=
  fun _ _ ha hM => st_bin (fun w => by
    rw [ha.rd hx, ha.rd hy]
    simp only [Sem.run_bind, run_eqGuard_agg w .eql T x y _ _ hg, Result.andThen_ok, run_eql_struct, hs w]) (h _ _ (ha.put hd _) hM)
end
end Go.Proofs.Ytoalabpbohkcjaa

/-
  Bytes taken in by the one-time sum, in plain numbers.
-/
namespace Go.Proofs.Ytoalabpbohkcjaa
open Go Go.RowKit

def accs (R A : Nat) (S : List Nat) : Nat → Nat
  | 0 => A
  | k + 1 => pst R (accs R A S k) ((S.drop (16 * k)).take 16)
theorem accs_lt {R A : Nat} {S : List Nat} (hA : A < 2 ^ 130) : ∀ k, accs R A S k < 2 ^ 130
  | 0 => hA
  | _ + 1 => mod_lt30 _
theorem w3_wd {x : Nat} (hx : x < 2 ^ 130) : w3 (wd x) = x := by
  unfold w3 wd
  simp only [Nat.mul_zero, Nat.pow_zero, Nat.div_one, Nat.mul_one, Nat.reduceMul]
  omega
theorem wd2_lt {x : Nat} (hx : x < 2 ^ 130) : wd x 2 < 4 := by
  unfold wd
  simp only [Nat.reduceMul]
  omega
/-- What was held, and what comes. -/
def sS (h : Nat → Nat) (n : Nat) (l : List Nat) : List Nat := (List.range n).map h ++ l
theorem sS_len (h : Nat → Nat) (n : Nat) (l : List Nat) : (sS h n l).length = n + l.length := by simp [sS]
theorem sS_lt {h : Nat → Nat} {n : Nat} {l : List Nat} (hh : ∀ j, j < n → h j < 256) (hl : ∀ b ∈ l, b < 256) : ∀ b ∈ sS h n l, b < 256 := by
  intro b hb
  unfold sS at hb
  rw [List.mem_append] at hb
  rcases hb with hb | hb
  · obtain ⟨j, hj, rfl⟩ := List.mem_map.1 hb
    exact hh j (List.mem_range.1 hj)
  · exact hl b hb
theorem drop_next (S : List Nat) (k : Nat) : ((S.drop (16 * k)).drop 16).take ((S.drop (16 * k)).length - 16) = S.drop (16 * (k + 1)) := by
  rw [List.drop_drop, List.take_of_length_le (by simp; omega), show 16 * k + 16 = 16 * (k + 1) by omega]
theorem held_all (L : List Nat) (h : L.length < 16) : (fun i => if i < min L.length 16 then L.getD i 0 else 0) = fun i => L.getD i 0 := by
  funext i
  by_cases hi : i < min L.length 16
  · rw [if_pos hi]
  · rw [if_neg hi, List.getD_eq_getElem?_getD, List.getElem?_eq_none (by omega)]; rfl

end Go.Proofs.Ytoalabpbohkcjaa

/-
  Walks, written by a program of ours off the loaded functions.
-/
namespace Go.Proofs.Ytoalabpbohkcjaa
open Go Go.RowKit


theorem ent53 : enters Try.prog 53 = true := by kernel_rfl
theorem ent54 : enters Try.prog 54 = true := by kernel_rfl

variable {G : Mem}

set_option maxHeartbeats 400000 in
theorem added_bad (r p a h : Nat → Nat) (n : Int) (v : Value) (ha0 : a 0 < 18446744073709551616) (ha1 : a 1 < 18446744073709551616) (hr0 : r 0 < 18446744073709551616) (hr1 : r 1 < 18446744073709551616) (hok : ¬ (okcd r a n && okh n h 16) = true) : Fn Try.prog G 40 #[PV r p a h n, v] (.tuple #[PV (fun _ => 0) (fun _ => 0) (fun _ => 0) (fun _ => 0) 0, ii 9]) := by
  refine fn2 (n := 43) Try.func40 rfl rfl (by simp) (argE [PV r p a h n, v] 0) (argE_ok _) ?_
  refine e_seq ?_
  refine e_plain ?_
  refine e_box 0 rfl rfl fun r1 => ?_
  refine e_alloc 1 zer61 rfl fun r2 => ?_
  refine e_assign rfl rfl ?_
  refine e_nil ?_
  refine e_seq ?_
  refine e_seq ?_
  refine e_plain ?_
  refine e_loadA (i := 0) und61 rfl siz61 rfl rfl (arrv_size _ _) rfl ⟨[], trivial⟩ ?_
  refine e_call rfl ent53 (fault_fn r p a h n ha0 ha1 hr0 hr1) rfl rfl ?_
  refine e_as (congrArg ii (if_neg hok)) ?_
  refine e_assign rfl rfl ?_
  refine e_nil ?_
  refine e_seq ?_
  refine e_plain ?_
  refine e_move rfl rfl ?_
  refine e_ne rfl rfl rfl ?_
  refine e_nil ?_
  refine e_cond rfl ?_ ?_
  · intro hc0
    refine e_seq ?_
    refine e_plain ?_
    refine e_buildS _ zer61 und61 pls61 rfl rfl rfl ?_
    refine e_move rfl rfl ?_
    refine e_storeA (i := 1) siz61 rfl rfl (arrv_size _ _) (cells_one ⟨fun _ => rfl, fun _ => rfl, fun _ => rfl, fun _ => rfl, fun _ => rfl, trivial⟩) rfl cells_sz (.inl rfl) ?_
    refine e_assign rfl rfl ?_
    refine e_nil ?_
    refine e_ret ?_
    exact ⟨_, _, rfl, .cell (i := 1) rfl rfl und61 rfl siz61 (arrv_size _ _), .tmp rfl⟩
  · intro hc0
    exact absurd hc0 (by decide)

set_option maxHeartbeats 4000000 in
theorem added_ok (r p : Nat → Nat) (A : Nat) (h : Nat → Nat) (n : Nat) (v : Value) (l : List Nat) (hv : Shows G 1 v l.length (l.map by8)) (hlb : ∀ b ∈ l, b < 256) (hA : A < 2 ^ 130) (hr0 : r 0 < 18446744073709551616) (hr1 : r 1 < 18446744073709551616) (hn : n < 16) (hh : ∀ j, j < 16 → h j < 256) (hok : (okcd r (wd A) n && okh n h 16) = true) (hlen : l.length + 16 ≤ 9223372036854775807) : Fn Try.prog G 40 #[PV r p (wd A) h n, v] (.tuple #[PV r p (wd (accs (k3 r) A (sS h n l) ((sS h n l).length / 16))) (fun i => ((sS h n l).drop (16 * ((sS h n l).length / 16))).getD i 0) (((sS h n l).drop (16 * ((sS h n l).length / 16))).length : Int), ii 0]) := by
  have hSl := sS_len h n l
  have hSb := sS_lt (n := n) (fun j hj => hh j (by omega)) hlb
  refine fn2 (n := 43) Try.func40 rfl rfl (by simp) (argE [PV r p (wd A) h n, v] 0) (argE_ok _) ?_
  refine e_seq ?_
  refine e_plain ?_
  refine e_box 0 rfl rfl fun r1 => ?_
  refine e_alloc 1 zer61 rfl fun r2 => ?_
  refine e_assign rfl rfl ?_
  refine e_nil ?_
  refine e_seq ?_
  refine e_seq ?_
  refine e_plain ?_
  refine e_loadA (i := 0) und61 rfl siz61 rfl rfl (arrv_size _ _) rfl ⟨[], trivial⟩ ?_
  refine e_call rfl ent53 (fault_fn r p (wd A) h n (wd_lt _ 0) (wd_lt _ 1) hr0 hr1) rfl rfl ?_
  refine e_as (congrArg ii (if_pos hok)) ?_
  refine e_assign rfl rfl ?_
  refine e_nil ?_
  refine e_seq ?_
  refine e_plain ?_
  refine e_move rfl rfl ?_
  refine e_ne rfl rfl rfl ?_
  refine e_nil ?_
  refine e_cond rfl ?_ ?_
  · intro hc0
    exact absurd hc0 (by decide)
  · intro hc0
    refine e_skip ?_
    refine e_seq ?_
    refine e_plain ?_
    refine e_fld (7) und61 rfl siz38 rfl rfl rfl ?_
    refine e_ldC (i := 0) 3 und38 rfl siz38 rfl rfl rfl (by decide) rfl ⟨[], trivial⟩ ?_
    refine e_alloc 2 zer38 rfl fun r3 => ?_
    refine e_storeA (i := 2) siz38 rfl rfl (arr_size _ _ _) arr_one rfl (arr_sz _ _ _ _ _) (.inl rfl) ?_
    refine e_nil ?_
    refine e_seq ?_
    refine e_draw mixed (by kernel_rfl) ?_
    refine e_fld (23) und61 rfl siz3 rfl rfl rfl ?_
    refine e_ldV1 (i := 0) 4 und3 rfl rfl rfl rfl (by decide) rfl ⟨[], trivial⟩ ?_
    refine e_sliceA 0 n und38 siz5 rfl rfl rfl rfl ⟨_, rfl⟩ (by omega) (by omega) (by omega) rfl ?_
    refine e_conv_str (i := 2) und24 und5 und9 rfl rfl (by omega) rfl rfl ⟨[], trivial⟩ ?_
    refine e_as (conv_all h n) ?_
    refine e_move rfl rfl ?_
    refine e_conv_strV hv seenG und24 und5 und9 rfl rfl rfl ?_
    refine e_catS rfl rfl rfl (by simp; omega) ?_
    refine e_as (show _ = sv (sS h n l) from rfl) ?_
    refine e_assign rfl rfl ?_
    refine e_nil ?_
    refine e_seq ?_
    refine e_block ?_
    refine e_loop (fun kk E m => ∃ (k : Nat) (ch : Nat → Nat) (cn : Int), kk = (sS h n l).length - 16 * k ∧ E = [(2, ptr r1), (4, ptr r2), (5, ii 0), (8, sv ((sS h n l).drop (16 * k)))] ∧ m = [(0, some ⟨r1, cells 24 [pI .u64 2 r, pI .u64 2 p, pI .u64 3 (wd (accs (k3 r) A (sS h n l) k)), pI .u8 16 ch, pV (.int .i64 cn)], 61⟩), (1, some ⟨r2, cells 24 [pI .u64 2 (fun _ => 0), pI .u64 2 (fun _ => 0), pI .u64 3 (fun _ => 0), pI .u8 16 (fun _ => 0), pV (.int .i64 0)], 61⟩), (2, some ⟨r3, arr .u8 16 h, 38⟩)] ∧ (16 * k ≤ (sS h n l).length)) [(2, ptr r1), (4, ptr r2), (5, ii 0), (8, sv ((sS h n l).drop (16 * 0)))] [(0, some ⟨r1, cells 24 [pI .u64 2 r, pI .u64 2 p, pI .u64 3 (wd (accs (k3 r) A (sS h n l) 0)), pI .u8 16 h, pV (.int .i64 ((n : Int)))], 61⟩), (1, some ⟨r2, cells 24 [pI .u64 2 (fun _ => 0), pI .u64 2 (fun _ => 0), pI .u64 3 (fun _ => 0), pI .u8 16 (fun _ => 0), pV (.int .i64 0)], 61⟩), (2, some ⟨r3, arr .u8 16 h, 38⟩)] ((sS h n l).length - 16 * 0) ⟨rfl, rfl, rfl, rfl, trivial⟩ ⟨rfl, rfl, rfl, trivial⟩ ⟨0, h, (n : Int), rfl, rfl, rfl, by omega⟩ ?_
    rintro kk E m ⟨k, ch, cn, rfl, rfl, rfl, hf0_0⟩
    have hB := accs_lt (R := k3 r) (S := sS h n l) hA k
    have hdl : ((sS h n l).drop (16 * k)).length = (sS h n l).length - 16 * k := List.length_drop
    refine e_seq ?_
    refine e_seq ?_
    refine e_plain ?_
    refine e_move rfl rfl ?_
    refine e_lenStr und9 rfl rfl rfl ?_
    refine e_ge rfl rfl rfl ?_
    refine e_nil ?_
    refine e_cond rfl ?_ ?_
    · intro hc1
      have hc1 := of_decide_eq_true hc1
      refine e_skip ?_
      refine e_block ?_
      refine e_draw mixed (by kernel_rfl) ?_
      refine e_loadA (i := 0) und61 rfl siz61 rfl rfl (arrv_size _ _) rfl ⟨[], trivial⟩ ?_
      refine e_move rfl rfl ?_
      refine e_sliceStr 0 16 und9 rfl rfl rfl rfl ⟨_, rfl⟩ (by omega) (by omega) rfl ?_
      refine e_call rfl ent54 (soaked_fn r p (wd (accs (k3 r) A (sS h n l) k)) ch cn (((sS h n l).drop (16 * k)).take 16) (by rw [List.length_take]; omega) (take_lt hSb _ _) (wd_lt _ 0) (wd_lt _ 1) (wd2_lt hB) hr0 hr1) rfl rfl ?_
      refine e_as (congrArg (fun z => PV r p (wd (pst (k3 r) z (((sS h n l).drop (16 * k)).take 16))) (fun _ => 0) 0) (w3_wd hB)) ?_
      refine e_move rfl rfl ?_
      refine e_sliceStr 16 ((sS h n l).drop (16 * k)).length und9 rfl rfl rfl ⟨_, rfl⟩ rfl (by omega) (by omega) rfl ?_
      refine e_as (congrArg sv (drop_next _ k)) ?_
      refine e_storeA (i := 0) siz61 rfl rfl (arrv_size _ _) (cells_one ⟨fun _ => rfl, fun _ => rfl, fun _ => rfl, fun _ => rfl, fun _ => rfl, trivial⟩) rfl cells_sz (.inl rfl) ?_
      refine e_assign rfl rfl ?_
      refine e_nil ?_
      refine ⟨_, [(2, ptr r1), (4, ptr r2), (5, ii 0), (8, sv ((sS h n l).drop (16 * (k + 1))))], [(0, some ⟨r1, cells 24 [pI .u64 2 r, pI .u64 2 p, pI .u64 3 (wd (accs (k3 r) A (sS h n l) (k + 1))), pI .u8 16 (fun _ => 0), pV (.int .i64 0)], 61⟩), (1, some ⟨r2, cells 24 [pI .u64 2 (fun _ => 0), pI .u64 2 (fun _ => 0), pI .u64 3 (fun _ => 0), pI .u8 16 (fun _ => 0), pV (.int .i64 0)], 61⟩), (2, some ⟨r3, arr .u8 16 h, 38⟩)], ?_, ⟨rfl, rfl, rfl, rfl, trivial⟩, ⟨rfl, rfl, rfl, trivial⟩, k + 1, fun _ => 0, 0, rfl, rfl, rfl, by omega⟩
      omega
    · intro hc1
      have hc1 := of_decide_eq_false hc1
      have hk : k = (sS h n l).length / 16 := by omega
      subst hk
      refine e_exit ?_
      refine e_seq ?_
      refine e_plain ?_
      refine e_build0 zer38 und38 sis5 rfl ?_
      refine e_move rfl rfl ?_
      refine e_lenStr und9 rfl rfl rfl ?_
      refine e_fld (7) und61 rfl siz38 rfl rfl rfl ?_
      refine e_stC (i := 0) 3 siz38 rfl rfl rfl rfl (by decide) (.inl rfl) ?_
      refine e_fld (23) und61 rfl siz3 rfl rfl rfl ?_
      refine e_stV (i := 0) 4 siz3 rfl rfl rfl rfl rfl (by decide) (.inl rfl) ?_
      refine e_nil ?_
      refine e_seq ?_
      refine e_plain ?_
      refine e_fld (7) und61 rfl siz38 rfl rfl rfl ?_
      refine e_sliceA 0 16 und38 siz5 rfl rfl rfl rfl rfl (by omega) (by omega) (by omega) rfl ?_
      refine e_move rfl rfl ?_
      refine e_copyC (i := 0) 3 und24 siz5 rfl rfl (fun b hb => hSb b (List.mem_of_mem_drop hb)) rfl rfl (Nat.le_of_ble_eq_true rfl) (by decide) rfl ?_
      refine e_nil ?_
      refine e_seq ?_
      refine e_plain ?_
      refine e_loadA (i := 0) und61 rfl siz61 rfl rfl (arrv_size _ _) rfl ⟨[], trivial⟩ ?_
      refine e_as (Eq.trans (show _ = PV r p (wd (accs (k3 r) A (sS h n l) ((sS h n l).length / 16))) (fun i => if i < min ((sS h n l).drop (16 * ((sS h n l).length / 16))).length 16 then ((sS h n l).drop (16 * ((sS h n l).length / 16))).getD i 0 else 0) (((sS h n l).drop (16 * ((sS h n l).length / 16))).length : Int) from rfl) (congrArg (fun z => PV r p (wd (accs (k3 r) A (sS h n l) ((sS h n l).length / 16))) z (((sS h n l).drop (16 * ((sS h n l).length / 16))).length : Int)) (held_all _ (by omega)))) ?_
      refine e_storeA (i := 1) siz61 rfl rfl (arrv_size _ _) (cells_one ⟨fun _ => rfl, fun _ => rfl, fun _ => rfl, fun _ => rfl, fun _ => rfl, trivial⟩) rfl cells_sz (.inl rfl) ?_
      refine e_assign rfl rfl ?_
      refine e_nil ?_
      refine e_ret ?_
      exact ⟨_, _, rfl, .cell (i := 1) rfl rfl und61 rfl siz61 (arrv_size _ _), .tmp rfl⟩

end Go.Proofs.Ytoalabpbohkcjaa

/-
  The end of the one-time sum, in plain numbers.
-/
namespace Go.Proofs.Ytoalabpbohkcjaa
open Go Go.RowKit

/-- What is carried below place i. -/
def cr (x y i : Nat) : Nat := (x % 256 ^ i + y % 256 ^ i) / 256 ^ i
def tgn (x y i : Nat) : Nat := (x + y) / 256 ^ i % 256
theorem p256 (i : Nat) : 0 < 256 ^ i := Nat.pow_pos (by decide)
theorem cr_zero (x y : Nat) : cr x y 0 = 0 := by simp [cr, Nat.mod_one]
theorem cr_le (x y i : Nat) : cr x y i ≤ 1 := by
  unfold cr
  have h1 := Nat.mod_lt x (p256 i)
  have h2 := Nat.mod_lt y (p256 i)
  have : (x % 256 ^ i + y % 256 ^ i) / 256 ^ i < 2 := Nat.div_lt_of_lt_mul (by omega)
  omega
theorem cr_next (x y i : Nat) : (cr x y i + (x / 256 ^ i % 256 + y / 256 ^ i % 256)) / 256 = cr x y (i + 1) := by
  unfold cr
  rw [Nat.pow_succ, Nat.mod_mul, Nat.mod_mul (x := y)]
  generalize x / 256 ^ i % 256 = a
  generalize y / 256 ^ i % 256 = b
  generalize x % 256 ^ i = p
  generalize y % 256 ^ i = q
  rw [← Nat.div_div_eq_div_mul]
  congr 1
  have hp := p256 i
  generalize 256 ^ i = M at *
  rw [show p + M * a + (q + M * b) = p + q + M * (a + b) by rw [Nat.mul_add]; omega, Nat.add_mul_div_left _ _ hp]
theorem tgn_at (x y i : Nat) : (cr x y i + (x / 256 ^ i % 256 + y / 256 ^ i % 256)) % 256 = tgn x y i := by
  unfold cr tgn
  have hp := p256 i
  have ex := Nat.div_add_mod x (256 ^ i)
  have ey := Nat.div_add_mod y (256 ^ i)
  have e : (x + y) / 256 ^ i = x / 256 ^ i + y / 256 ^ i + (x % 256 ^ i + y % 256 ^ i) / 256 ^ i := by
    conv => lhs; rw [← ex, ← ey]
    generalize 256 ^ i = M at *
    rw [show M * (x / M) + x % M + (M * (y / M) + y % M) = x % M + y % M + M * (x / M + y / M) by rw [Nat.mul_add]; omega, Nat.add_mul_div_left _ _ hp]
    omega
  rw [e]
  omega
theorem k3_wd (x : Nat) : k3 (wd x) = x % 2 ^ 128 := by
  unfold k3 wd
  simp only [Nat.mul_zero, Nat.pow_zero, Nat.div_one, Nat.mul_one]
  omega
theorem lw_get {r : Nat → Nat} (h0 : r 0 < 18446744073709551616) {i : Nat} (hi : i < 16) : (lw r)[i]? = some (k3 r / 256 ^ i % 256) := by
  unfold lw
  by_cases h : i < 8
  · rw [List.getElem?_append_left (by rw [lowl_len]; exact h)]
    simp only [lowl, List.getElem?_map, List.getElem?_range h, Option.map_some]
    congr 1
    unfold k3
    have : i = 0 ∨ i = 1 ∨ i = 2 ∨ i = 3 ∨ i = 4 ∨ i = 5 ∨ i = 6 ∨ i = 7 := by omega
    rcases this with rfl | rfl | rfl | rfl | rfl | rfl | rfl | rfl <;> simp only [Nat.reducePow] <;> omega
  · rw [List.getElem?_append_right (by rw [lowl_len]; omega), lowl_len]
    simp only [lowl, List.getElem?_map, List.getElem?_range (show i - 8 < 8 by omega), Option.map_some]
    congr 1
    unfold k3
    have : i = 8 ∨ i = 9 ∨ i = 10 ∨ i = 11 ∨ i = 12 ∨ i = 13 ∨ i = 14 ∨ i = 15 := by omega
    rcases this with rfl | rfl | rfl | rfl | rfl | rfl | rfl | rfl <;> simp only [Nat.reducePow, Nat.reduceSub] <;> omega

end Go.Proofs.Ytoalabpbohkcjaa

/-
  Walks, written by a program of ours off the loaded functions.
-/
namespace Go.Proofs.Ytoalabpbohkcjaa
open Go Go.RowKit



variable {G : Mem}

set_option maxHeartbeats 400000 in
theorem ended_bad (r p a h : Nat → Nat) (n : Int) (ha0 : a 0 < 18446744073709551616) (ha1 : a 1 < 18446744073709551616) (hr0 : r 0 < 18446744073709551616) (hr1 : r 1 < 18446744073709551616) (hok : ¬ (okcd r a n && okh n h 16) = true) : Fn Try.prog G 42 #[PV r p a h n] (.tuple #[.agg (arr .u8 16 (fun _ => 0)), ii 9]) := by
  refine fn2 (n := 68) Try.func42 rfl rfl (by simp) (argE [PV r p a h n] 0) (argE_ok _) ?_
  refine e_seq ?_
  refine e_plain ?_
  refine e_box 0 rfl rfl fun r1 => ?_
  refine e_alloc 1 zer38 rfl fun r2 => ?_
  refine e_assign rfl rfl ?_
  refine e_nil ?_
  refine e_seq ?_
  refine e_seq ?_
  refine e_plain ?_
  refine e_loadA (i := 0) und61 rfl siz61 rfl rfl (arrv_size _ _) rfl ⟨[], trivial⟩ ?_
  refine e_call rfl ent53 (fault_fn r p a h n ha0 ha1 hr0 hr1) rfl rfl ?_
  refine e_as (congrArg ii (if_neg hok)) ?_
  refine e_assign rfl rfl ?_
  refine e_nil ?_
  refine e_seq ?_
  refine e_plain ?_
  refine e_move rfl rfl ?_
  refine e_ne rfl rfl rfl ?_
  refine e_nil ?_
  refine e_cond rfl ?_ ?_
  · intro hc0
    refine e_seq ?_
    refine e_plain ?_
    refine e_build0 zer38 und38 sis5 rfl ?_
    refine e_move rfl rfl ?_
    refine e_storeA (i := 1) siz38 rfl rfl (arr_size _ _ _) arr_one rfl (arr_sz _ _ _ _ _) (.inl rfl) ?_
    refine e_assign rfl rfl ?_
    refine e_nil ?_
    refine e_ret ?_
    exact ⟨_, _, rfl, .cell (i := 1) rfl rfl und38 rfl siz38 (arr_size _ _ _), .tmp rfl⟩
  · intro hc0
    exact absurd hc0 (by decide)

set_option maxHeartbeats 4000000 in
theorem ended_zero (r p : Nat → Nat) (A : Nat) (h : Nat → Nat) (n : Nat) (hr0 : r 0 < 18446744073709551616) (hr1 : r 1 < 18446744073709551616) (hp0 : p 0 < 18446744073709551616) (hp1 : p 1 < 18446744073709551616) (hn : n = 0) (hok : (okcd r (wd A) n && okh n h 16) = true) : Fn Try.prog G 42 #[PV r p (wd A) h n] (.tuple #[.agg (arr .u8 16 (tgn (k3 (wd A)) (k3 p))), ii 0]) := by
  refine fn2 (n := 68) Try.func42 rfl rfl (by simp) (argE [PV r p (wd A) h n] 0) (argE_ok _) ?_
  refine e_seq ?_
  refine e_plain ?_
  refine e_box 0 rfl rfl fun r1 => ?_
  refine e_alloc 1 zer38 rfl fun r2 => ?_
  refine e_assign rfl rfl ?_
  refine e_nil ?_
  refine e_seq ?_
  refine e_seq ?_
  refine e_plain ?_
  refine e_loadA (i := 0) und61 rfl siz61 rfl rfl (arrv_size _ _) rfl ⟨[], trivial⟩ ?_
  refine e_call rfl ent53 (fault_fn r p (wd A) h n (wd_lt _ 0) (wd_lt _ 1) hr0 hr1) rfl rfl ?_
  refine e_as (congrArg ii (if_pos hok)) ?_
  refine e_assign rfl rfl ?_
  refine e_nil ?_
  refine e_seq ?_
  refine e_plain ?_
  refine e_move rfl rfl ?_
  refine e_ne rfl rfl rfl ?_
  refine e_nil ?_
  refine e_cond rfl ?_ ?_
  · intro hc0
    exact absurd hc0 (by decide)
  · intro hc0
    refine e_skip ?_
    refine e_seq ?_
    refine e_seq ?_
    refine e_plain ?_
    refine e_fld (7) und61 rfl siz38 rfl rfl rfl ?_
    refine e_ldC (i := 0) 3 und38 rfl siz38 rfl rfl rfl (by decide) rfl ⟨[], trivial⟩ ?_
    refine e_alloc 2 zer38 rfl fun r3 => ?_
    refine e_storeA (i := 2) siz38 rfl rfl (arr_size _ _ _) arr_one rfl (arr_sz _ _ _ _ _) (.inl rfl) ?_
    refine e_nil ?_
    refine e_seq ?_
    refine e_plain ?_
    refine e_fld (23) und61 rfl siz3 rfl rfl rfl ?_
    refine e_ldV1 (i := 0) 4 und3 rfl rfl rfl rfl (by decide) rfl ⟨[], trivial⟩ ?_
    refine e_gt rfl rfl rfl ?_
    refine e_nil ?_
    refine e_cond rfl ?_ ?_
    · intro hc1
      exact absurd (of_decide_eq_true hc1) (by omega)
    · intro hc1
      refine e_skip ?_
      refine e_seq ?_
      refine e_plain ?_
      refine e_alloc 3 zer38 rfl fun r4 => ?_
      refine e_nil ?_
      refine e_seq ?_
      refine e_draw mixed (by kernel_rfl) ?_
      refine e_fld (4) und61 rfl siz59 rfl rfl rfl ?_
      refine e_at (4) (j := 0) und59 siz52 rfl rfl (by omega) (by omega) rfl ?_
      refine e_ldI (i := 0) 2 (0) und52 rfl rfl rfl rfl rfl (by decide) (by decide) rfl ⟨[], trivial⟩ ?_
      refine e_call rfl ent27 (low_fn _ 8 (wd_lt _ 0) (by decide)) rfl rfl ?_
      refine e_fld (4) und61 rfl siz59 rfl rfl rfl ?_
      refine e_at (5) (j := 1) und59 siz52 rfl rfl (by omega) (by omega) rfl ?_
      refine e_ldI (i := 0) 2 (1) und52 rfl rfl rfl rfl rfl (by decide) (by decide) rfl ⟨[], trivial⟩ ?_
      refine e_call rfl ent27 (low_fn _ 8 (wd_lt _ 1) (by decide)) rfl rfl ?_
      refine e_catS rfl rfl rfl (by simp [lowl_len]) ?_
      refine e_as (show _ = sv (lw (wd A)) from rfl) ?_
      refine e_assign rfl rfl ?_
      refine e_nil ?_
      refine e_seq ?_
      refine e_draw mixed (by kernel_rfl) ?_
      refine e_fld (2) und61 rfl siz58 rfl rfl rfl ?_
      refine e_at (2) (j := 0) und58 siz52 rfl rfl (by omega) (by omega) rfl ?_
      refine e_ldI (i := 0) 1 (0) und52 rfl rfl rfl rfl rfl (by decide) (by decide) rfl ⟨[], trivial⟩ ?_
      refine e_call rfl ent27 (low_fn _ 8 hp0 (by decide)) rfl rfl ?_
      refine e_fld (2) und61 rfl siz58 rfl rfl rfl ?_
      refine e_at (3) (j := 1) und58 siz52 rfl rfl (by omega) (by omega) rfl ?_
      refine e_ldI (i := 0) 1 (1) und52 rfl rfl rfl rfl rfl (by decide) (by decide) rfl ⟨[], trivial⟩ ?_
      refine e_call rfl ent27 (low_fn _ 8 hp1 (by decide)) rfl rfl ?_
      refine e_catS rfl rfl rfl (by simp [lowl_len]) ?_
      refine e_as (show _ = sv (lw p) from rfl) ?_
      refine e_assign rfl rfl ?_
      refine e_nil ?_
      refine e_seq ?_
      refine e_plain ?_
      refine e_assign rfl rfl ?_
      refine e_nil ?_
      refine e_seq ?_
      refine e_seq ?_
      refine e_plain ?_
      refine e_move rfl rfl ?_
      refine e_nil ?_
      refine e_block ?_
      refine e_loop (fun kk E m => ∃ (i : Nat) (s : Nat → Nat), kk = 16 - i ∧ E = [(2, ptr r2), (3, ii 0), (6, ptr r4), (7, sv (lw (wd A))), (8, sv (lw p)), (9, ii (cr (k3 (wd A)) (k3 p) i)), (46, ii i)] ∧ m = [(0, some ⟨r1, cells 24 [pI .u64 2 r, pI .u64 2 p, pI .u64 3 (wd A), pI .u8 16 h, pV (.int .i64 n)], 61⟩), (1, some ⟨r2, arr .u8 16 (fun _ => 0), 38⟩), (2, some ⟨r3, arr .u8 16 h, 38⟩), (3, some ⟨r4, arr .u8 16 s, 38⟩)] ∧ (i ≤ 16) ∧ (∀ j, j < i → s j = tgn (k3 (wd A)) (k3 p) j)) [(2, ptr r2), (3, ii 0), (6, ptr r4), (7, sv (lw (wd A))), (8, sv (lw p)), (9, ii (cr (k3 (wd A)) (k3 p) 0)), (46, ii 0)] [(0, some ⟨r1, cells 24 [pI .u64 2 r, pI .u64 2 p, pI .u64 3 (wd A), pI .u8 16 h, pV (.int .i64 n)], 61⟩), (1, some ⟨r2, arr .u8 16 (fun _ => 0), 38⟩), (2, some ⟨r3, arr .u8 16 h, 38⟩), (3, some ⟨r4, arr .u8 16 (fun _ => 0), 38⟩)] (16 - 0) ⟨rfl, rfl, rfl, rfl, rfl, by rw [cr_zero]; rfl, rfl, trivial⟩ ⟨rfl, rfl, rfl, rfl, trivial⟩ ⟨0, fun _ => 0, rfl, rfl, rfl, by omega, fun j hj => absurd hj (Nat.not_lt_zero j)⟩ ?_
      rintro kk E m ⟨i, s, rfl, rfl, rfl, hf0_0, hf0_1⟩
      have hci := cr_le (k3 (wd A)) (k3 p) i
      have hx8 : (k3 (wd A)) / 256 ^ i % 256 < 256 := Nat.mod_lt _ (by decide)
      have hy8 : (k3 p) / 256 ^ i % 256 < 256 := Nat.mod_lt _ (by decide)
      refine e_seq ?_
      refine e_plain ?_
      refine e_lt rfl rfl rfl ?_
      refine e_nil ?_
      refine e_seq ?_
      refine e_cond rfl ?_ ?_
      · intro hc2
        have hc2 := of_decide_eq_true hc2
        refine e_skip ?_
        refine e_seq ?_
        refine e_block ?_
        refine e_seq ?_
        refine e_plain ?_
        refine e_move rfl rfl ?_
        refine e_assign rfl rfl ?_
        refine e_nil ?_
        refine e_seq ?_
        refine e_draw mixed (by kernel_rfl) ?_
        refine e_move rfl rfl ?_
        refine e_move rfl rfl ?_
        refine e_move rfl rfl ?_
        refine e_idxStr und9 rfl rfl (lw_get (wd_lt _ 0) (by omega)) (by omega) rfl ?_
        refine e_conv_i und5 und3 rfl rfl rfl (by omega) ?_
        refine e_move rfl rfl ?_
        refine e_move rfl rfl ?_
        refine e_idxStr und9 rfl rfl (lw_get hp0 (by omega)) (by omega) rfl ?_
        refine e_conv_i und5 und3 rfl rfl rfl (by omega) ?_
        refine e_add_i rfl rfl rfl (by omega) ?_
        refine e_add_i rfl rfl rfl (by omega) ?_
        refine e_assign rfl rfl ?_
        refine e_nil ?_
        refine e_seq ?_
        refine e_plain ?_
        refine e_move rfl rfl ?_
        refine e_move rfl rfl ?_
        refine e_conv_u8 und3 und5 rfl rfl rfl ?_
        refine e_index0 und38 siz5 rfl rfl (by omega) rfl ?_
        refine e_storeN (i := 3) siz5 rfl rfl rfl (by omega) (.inl rfl) ?_
        refine e_nil ?_
        refine e_plain ?_
        refine e_move rfl rfl ?_
        refine e_quo_i (q := 256) rfl rfl rfl (by omega) (by omega) ?_
        refine e_assign rfl rfl ?_
        refine e_nil ?_
        refine e_plain ?_
        refine e_add_i (q := 1) rfl rfl rfl (by omega) ?_
        refine e_move rfl rfl ?_
        refine e_nil ?_
        refine ⟨_, [(2, ptr r2), (3, ii 0), (6, ptr r4), (7, sv (lw (wd A))), (8, sv (lw p)), (9, ii (cr (k3 (wd A)) (k3 p) (i + 1))), (46, ii (i + 1))], [(0, some ⟨r1, cells 24 [pI .u64 2 r, pI .u64 2 p, pI .u64 3 (wd A), pI .u8 16 h, pV (.int .i64 n)], 61⟩), (1, some ⟨r2, arr .u8 16 (fun _ => 0), 38⟩), (2, some ⟨r3, arr .u8 16 h, 38⟩), (3, some ⟨r4, arr .u8 16 (upd s i _), 38⟩)], ?_, ⟨rfl, rfl, rfl, rfl, rfl, by rw [← cr_next]; rfl, rfl, trivial⟩, ⟨rfl, rfl, rfl, rfl, trivial⟩, i + 1, upd s i _, rfl, rfl, rfl, by omega, upd_lt hf0_1 (tgn_at (k3 (wd A)) (k3 p) i)⟩
        omega
      · intro hc2
        have hc2 := of_decide_eq_false hc2
        have hi16 : i = 16 := by omega
        subst hi16
        refine e_exit ?_
        refine e_seq ?_
        refine e_plain ?_
        refine e_loadA (i := 3) und38 rfl siz38 rfl rfl (arr_size _ _ _) rfl ⟨[], trivial⟩ ?_
        refine e_as (congrArg Value.agg (arr_congr hf0_1)) ?_
        refine e_storeA (i := 1) siz38 rfl rfl (arr_size _ _ _) arr_one rfl (arr_sz _ _ _ _ _) (.inl rfl) ?_
        refine e_assign rfl rfl ?_
        refine e_nil ?_
        refine e_ret ?_
        exact ⟨_, _, rfl, .cell (i := 1) rfl rfl und38 rfl siz38 (arr_size _ _ _), .tmp rfl⟩

set_option maxHeartbeats 4000000 in
theorem ended_some (r p : Nat → Nat) (A : Nat) (h : Nat → Nat) (n : Nat) (hr0 : r 0 < 18446744073709551616) (hr1 : r 1 < 18446744073709551616) (hp0 : p 0 < 18446744073709551616) (hp1 : p 1 < 18446744073709551616) (hA : A < 2 ^ 130) (hh : ∀ j, j < 16 → h j < 256) (hn : 0 < n) (hn2 : n < 16) (hok : (okcd r (wd A) n && okh n h 16) = true) : Fn Try.prog G 42 #[PV r p (wd A) h n] (.tuple #[.agg (arr .u8 16 (tgn (k3 (wd (pst (k3 r) A ((List.range n).map h)))) (k3 p))), ii 0]) := by
  refine fn2 (n := 68) Try.func42 rfl rfl (by simp) (argE [PV r p (wd A) h n] 0) (argE_ok _) ?_
  refine e_seq ?_
  refine e_plain ?_
  refine e_box 0 rfl rfl fun r1 => ?_
  refine e_alloc 1 zer38 rfl fun r2 => ?_
  refine e_assign rfl rfl ?_
  refine e_nil ?_
  refine e_seq ?_
  refine e_seq ?_
  refine e_plain ?_
  refine e_loadA (i := 0) und61 rfl siz61 rfl rfl (arrv_size _ _) rfl ⟨[], trivial⟩ ?_
  refine e_call rfl ent53 (fault_fn r p (wd A) h n (wd_lt _ 0) (wd_lt _ 1) hr0 hr1) rfl rfl ?_
  refine e_as (congrArg ii (if_pos hok)) ?_
  refine e_assign rfl rfl ?_
  refine e_nil ?_
  refine e_seq ?_
  refine e_plain ?_
  refine e_move rfl rfl ?_
  refine e_ne rfl rfl rfl ?_
  refine e_nil ?_
  refine e_cond rfl ?_ ?_
  · intro hc0
    exact absurd hc0 (by decide)
  · intro hc0
    refine e_skip ?_
    refine e_seq ?_
    refine e_seq ?_
    refine e_plain ?_
    refine e_fld (7) und61 rfl siz38 rfl rfl rfl ?_
    refine e_ldC (i := 0) 3 und38 rfl siz38 rfl rfl rfl (by decide) rfl ⟨[], trivial⟩ ?_
    refine e_alloc 2 zer38 rfl fun r3 => ?_
    refine e_storeA (i := 2) siz38 rfl rfl (arr_size _ _ _) arr_one rfl (arr_sz _ _ _ _ _) (.inl rfl) ?_
    refine e_nil ?_
    refine e_seq ?_
    refine e_plain ?_
    refine e_fld (23) und61 rfl siz3 rfl rfl rfl ?_
    refine e_ldV1 (i := 0) 4 und3 rfl rfl rfl rfl (by decide) rfl ⟨[], trivial⟩ ?_
    refine e_gt rfl rfl rfl ?_
    refine e_nil ?_
    refine e_cond rfl ?_ ?_
    · intro hc1
      refine e_draw mixed (by kernel_rfl) ?_
      refine e_loadA (i := 0) und61 rfl siz61 rfl rfl (arrv_size _ _) rfl ⟨[], trivial⟩ ?_
      refine e_fld (23) und61 rfl siz3 rfl rfl rfl ?_
      refine e_ldV1 (i := 0) 4 und3 rfl rfl rfl rfl (by decide) rfl ⟨[], trivial⟩ ?_
      refine e_sliceA 0 n und38 siz5 rfl rfl rfl rfl ⟨_, rfl⟩ (by omega) (by omega) (by omega) rfl ?_
      refine e_conv_str (i := 2) und24 und5 und9 rfl rfl (by omega) rfl rfl ⟨[], trivial⟩ ?_
      refine e_as (conv_all h n) ?_
      refine e_call rfl ent54 (soaked_fn r p (wd A) h n ((List.range n).map h) (by simp; omega) (by intro b hb; obtain ⟨j, hj, rfl⟩ := List.mem_map.1 hb; exact hh j (by have := List.mem_range.1 hj; omega)) (wd_lt _ 0) (wd_lt _ 1) (wd2_lt hA) hr0 hr1) rfl rfl ?_
      refine e_as (congrArg (fun z => PV r p (wd (pst (k3 r) z ((List.range n).map h))) (fun _ => 0) 0) (w3_wd hA)) ?_
      refine e_storeA (i := 0) siz61 rfl rfl (arrv_size _ _) (cells_one ⟨fun _ => rfl, fun _ => rfl, fun _ => rfl, fun _ => rfl, fun _ => rfl, trivial⟩) rfl cells_sz (.inl rfl) ?_
      refine e_nil ?_
      refine e_seq ?_
      refine e_plain ?_
      refine e_alloc 3 zer38 rfl fun r4 => ?_
      refine e_nil ?_
      refine e_seq ?_
      refine e_draw mixed (by kernel_rfl) ?_
      refine e_fld (4) und61 rfl siz59 rfl rfl rfl ?_
      refine e_at (4) (j := 0) und59 siz52 rfl rfl (by omega) (by omega) rfl ?_
      refine e_ldI (i := 0) 2 (0) und52 rfl rfl rfl rfl rfl (by decide) (by decide) rfl ⟨[], trivial⟩ ?_
      refine e_call rfl ent27 (low_fn _ 8 (wd_lt _ 0) (by decide)) rfl rfl ?_
      refine e_fld (4) und61 rfl siz59 rfl rfl rfl ?_
      refine e_at (5) (j := 1) und59 siz52 rfl rfl (by omega) (by omega) rfl ?_
      refine e_ldI (i := 0) 2 (1) und52 rfl rfl rfl rfl rfl (by decide) (by decide) rfl ⟨[], trivial⟩ ?_
      refine e_call rfl ent27 (low_fn _ 8 (wd_lt _ 1) (by decide)) rfl rfl ?_
      refine e_catS rfl rfl rfl (by simp [lowl_len]) ?_
      refine e_as (show _ = sv (lw (wd (pst (k3 r) A ((List.range n).map h)))) from rfl) ?_
      refine e_assign rfl rfl ?_
      refine e_nil ?_
      refine e_seq ?_
      refine e_draw mixed (by kernel_rfl) ?_
      refine e_fld (2) und61 rfl siz58 rfl rfl rfl ?_
      refine e_at (2) (j := 0) und58 siz52 rfl rfl (by omega) (by omega) rfl ?_
      refine e_ldI (i := 0) 1 (0) und52 rfl rfl rfl rfl rfl (by decide) (by decide) rfl ⟨[], trivial⟩ ?_
      refine e_call rfl ent27 (low_fn _ 8 hp0 (by decide)) rfl rfl ?_
      refine e_fld (2) und61 rfl siz58 rfl rfl rfl ?_
      refine e_at (3) (j := 1) und58 siz52 rfl rfl (by omega) (by omega) rfl ?_
      refine e_ldI (i := 0) 1 (1) und52 rfl rfl rfl rfl rfl (by decide) (by decide) rfl ⟨[], trivial⟩ ?_
      refine e_call rfl ent27 (low_fn _ 8 hp1 (by decide)) rfl rfl ?_
      refine e_catS rfl rfl rfl (by simp [lowl_len]) ?_
      refine e_as (show _ = sv (lw p) from rfl) ?_
      refine e_assign rfl rfl ?_
      refine e_nil ?_
      refine e_seq ?_
      refine e_plain ?_
      refine e_assign rfl rfl ?_
      refine e_nil ?_
      refine e_seq ?_
      refine e_seq ?_
      refine e_plain ?_
      refine e_move rfl rfl ?_
      refine e_nil ?_
      refine e_block ?_
      refine e_loop (fun kk E m => ∃ (i : Nat) (s : Nat → Nat), kk = 16 - i ∧ E = [(2, ptr r2), (3, ii 0), (6, ptr r4), (7, sv (lw (wd (pst (k3 r) A ((List.range n).map h))))), (8, sv (lw p)), (9, ii (cr (k3 (wd (pst (k3 r) A ((List.range n).map h)))) (k3 p) i)), (46, ii i)] ∧ m = [(0, some ⟨r1, cells 24 [pI .u64 2 r, pI .u64 2 p, pI .u64 3 (wd (pst (k3 r) A ((List.range n).map h))), pI .u8 16 (fun _ => 0), pV (.int .i64 0)], 61⟩), (1, some ⟨r2, arr .u8 16 (fun _ => 0), 38⟩), (2, some ⟨r3, arr .u8 16 h, 38⟩), (3, some ⟨r4, arr .u8 16 s, 38⟩)] ∧ (i ≤ 16) ∧ (∀ j, j < i → s j = tgn (k3 (wd (pst (k3 r) A ((List.range n).map h)))) (k3 p) j)) [(2, ptr r2), (3, ii 0), (6, ptr r4), (7, sv (lw (wd (pst (k3 r) A ((List.range n).map h))))), (8, sv (lw p)), (9, ii (cr (k3 (wd (pst (k3 r) A ((List.range n).map h)))) (k3 p) 0)), (46, ii 0)] [(0, some ⟨r1, cells 24 [pI .u64 2 r, pI .u64 2 p, pI .u64 3 (wd (pst (k3 r) A ((List.range n).map h))), pI .u8 16 (fun _ => 0), pV (.int .i64 0)], 61⟩), (1, some ⟨r2, arr .u8 16 (fun _ => 0), 38⟩), (2, some ⟨r3, arr .u8 16 h, 38⟩), (3, some ⟨r4, arr .u8 16 (fun _ => 0), 38⟩)] (16 - 0) ⟨rfl, rfl, rfl, rfl, rfl, by rw [cr_zero]; rfl, rfl, trivial⟩ ⟨rfl, rfl, rfl, rfl, trivial⟩ ⟨0, fun _ => 0, rfl, rfl, rfl, by omega, fun j hj => absurd hj (Nat.not_lt_zero j)⟩ ?_
      rintro kk E m ⟨i, s, rfl, rfl, rfl, hf0_0, hf0_1⟩
      have hci := cr_le (k3 (wd (pst (k3 r) A ((List.range n).map h)))) (k3 p) i
      have hx8 : (k3 (wd (pst (k3 r) A ((List.range n).map h)))) / 256 ^ i % 256 < 256 := Nat.mod_lt _ (by decide)
      have hy8 : (k3 p) / 256 ^ i % 256 < 256 := Nat.mod_lt _ (by decide)
      refine e_seq ?_
      refine e_plain ?_
      refine e_lt rfl rfl rfl ?_
      refine e_nil ?_
      refine e_seq ?_
      refine e_cond rfl ?_ ?_
      · intro hc2
        have hc2 := of_decide_eq_true hc2
        refine e_skip ?_
        refine e_seq ?_
        refine e_block ?_
        refine e_seq ?_
        refine e_plain ?_
        refine e_move rfl rfl ?_
        refine e_assign rfl rfl ?_
        refine e_nil ?_
        refine e_seq ?_
        refine e_draw mixed (by kernel_rfl) ?_
        refine e_move rfl rfl ?_
        refine e_move rfl rfl ?_
        refine e_move rfl rfl ?_
        refine e_idxStr und9 rfl rfl (lw_get (wd_lt _ 0) (by omega)) (by omega) rfl ?_
        refine e_conv_i und5 und3 rfl rfl rfl (by omega) ?_
        refine e_move rfl rfl ?_
        refine e_move rfl rfl ?_
        refine e_idxStr und9 rfl rfl (lw_get hp0 (by omega)) (by omega) rfl ?_
        refine e_conv_i und5 und3 rfl rfl rfl (by omega) ?_
        refine e_add_i rfl rfl rfl (by omega) ?_
        refine e_add_i rfl rfl rfl (by omega) ?_
        refine e_assign rfl rfl ?_
        refine e_nil ?_
        refine e_seq ?_
        refine e_plain ?_
        refine e_move rfl rfl ?_
        refine e_move rfl rfl ?_
        refine e_conv_u8 und3 und5 rfl rfl rfl ?_
        refine e_index0 und38 siz5 rfl rfl (by omega) rfl ?_
        refine e_storeN (i := 3) siz5 rfl rfl rfl (by omega) (.inl rfl) ?_
        refine e_nil ?_
        refine e_plain ?_
        refine e_move rfl rfl ?_
        refine e_quo_i (q := 256) rfl rfl rfl (by omega) (by omega) ?_
        refine e_assign rfl rfl ?_
        refine e_nil ?_
        refine e_plain ?_
        refine e_add_i (q := 1) rfl rfl rfl (by omega) ?_
        refine e_move rfl rfl ?_
        refine e_nil ?_
        refine ⟨_, [(2, ptr r2), (3, ii 0), (6, ptr r4), (7, sv (lw (wd (pst (k3 r) A ((List.range n).map h))))), (8, sv (lw p)), (9, ii (cr (k3 (wd (pst (k3 r) A ((List.range n).map h)))) (k3 p) (i + 1))), (46, ii (i + 1))], [(0, some ⟨r1, cells 24 [pI .u64 2 r, pI .u64 2 p, pI .u64 3 (wd (pst (k3 r) A ((List.range n).map h))), pI .u8 16 (fun _ => 0), pV (.int .i64 0)], 61⟩), (1, some ⟨r2, arr .u8 16 (fun _ => 0), 38⟩), (2, some ⟨r3, arr .u8 16 h, 38⟩), (3, some ⟨r4, arr .u8 16 (upd s i _), 38⟩)], ?_, ⟨rfl, rfl, rfl, rfl, rfl, by rw [← cr_next]; rfl, rfl, trivial⟩, ⟨rfl, rfl, rfl, rfl, trivial⟩, i + 1, upd s i _, rfl, rfl, rfl, by omega, upd_lt hf0_1 (tgn_at (k3 (wd (pst (k3 r) A ((List.range n).map h)))) (k3 p) i)⟩
        omega
      · intro hc2
        have hc2 := of_decide_eq_false hc2
        have hi16 : i = 16 := by omega
        subst hi16
        refine e_exit ?_
        refine e_seq ?_
        refine e_plain ?_
        refine e_loadA (i := 3) und38 rfl siz38 rfl rfl (arr_size _ _ _) rfl ⟨[], trivial⟩ ?_
        refine e_as (congrArg Value.agg (arr_congr hf0_1)) ?_
        refine e_storeA (i := 1) siz38 rfl rfl (arr_size _ _ _) arr_one rfl (arr_sz _ _ _ _ _) (.inl rfl) ?_
        refine e_assign rfl rfl ?_
        refine e_nil ?_
        refine e_ret ?_
        exact ⟨_, _, rfl, .cell (i := 1) rfl rfl und38 rfl siz38 (arr_size _ _ _), .tmp rfl⟩
    · intro hc1
      exact absurd (of_decide_eq_false hc1) (by omega)

end Go.Proofs.Ytoalabpbohkcjaa
