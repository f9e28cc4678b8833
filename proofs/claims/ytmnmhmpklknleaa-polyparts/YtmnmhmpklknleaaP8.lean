/-
  Walks, written by a program of ours off the loaded functions.
-/
import Derived.Test.YtmnmhmpklknleaaP7
import Derived.Test.YtmnmhmpklknleaaPol4
namespace Go.Proofs.Ytmnmhmpklknleaa
open Go Go.RowKit



variable {G : Mem}

set_option maxHeartbeats 400000 in
theorem ended_bad (r p a h : Nat → Nat) (n : Int) (ha0 : a 0 < 18446744073709551616) (ha1 : a 1 < 18446744073709551616) (hr0 : r 0 < 18446744073709551616) (hr1 : r 1 < 18446744073709551616) (hok : ¬ (okcd r a n && okh n h 16) = true) : Fn Try.prog G 16 #[PV r p a h n] (.tuple #[.agg (arr .u8 16 (fun _ => 0)), ii 9]) := by
  refine fn2 (n := 68) Try.func16 rfl rfl (by simp) (argE [PV r p a h n] 0) (argE_ok _) ?_
  refine e_seq ?_
  refine e_plain ?_
  refine e_box 0 rfl rfl fun r1 => ?_
  refine e_alloc 1 zer26 rfl fun r2 => ?_
  refine e_assign rfl rfl ?_
  refine e_nil ?_
  refine e_seq ?_
  refine e_seq ?_
  refine e_plain ?_
  refine e_loadA (i := 0) und28 rfl siz28 rfl rfl (arrv_size _ _) rfl ⟨[], trivial⟩ ?_
  refine e_call rfl ent12 (fault_fn r p a h n ha0 ha1 hr0 hr1) rfl rfl ?_
  refine e_as (congrArg ii (if_neg hok)) ?_
  refine e_assign rfl rfl ?_
  refine e_nil ?_
  refine e_seq ?_
  refine e_plain ?_
  refine e_move rfl rfl ?_
  refine e_ne rfl rfl rfl ?_
  refine e_nil ?_
  refine e_cond rfl ?_ ?_
  · intro hc0
    refine e_seq ?_
    refine e_plain ?_
    refine e_build0 zer26 und26 sis5 rfl ?_
    refine e_move rfl rfl ?_
    refine e_storeA (i := 1) siz26 rfl rfl (arr_size _ _ _) arr_one rfl (arr_sz _ _ _ _ _) (.inl rfl) ?_
    refine e_assign rfl rfl ?_
    refine e_nil ?_
    refine e_ret ?_
    exact ⟨_, _, rfl, .cell (i := 1) rfl rfl und26 rfl siz26 (arr_size _ _ _), .tmp rfl⟩
  · intro hc0
    exact absurd hc0 (by decide)

set_option maxHeartbeats 4000000 in
theorem ended_zero (r p : Nat → Nat) (A : Nat) (h : Nat → Nat) (n : Nat) (hr0 : r 0 < 18446744073709551616) (hr1 : r 1 < 18446744073709551616) (hp0 : p 0 < 18446744073709551616) (hp1 : p 1 < 18446744073709551616) (hn : n = 0) (hok : (okcd r (wd A) n && okh n h 16) = true) : Fn Try.prog G 16 #[PV r p (wd A) h n] (.tuple #[.agg (arr .u8 16 (tgn (k3 (wd A)) (k3 p))), ii 0]) := by
  refine fn2 (n := 68) Try.func16 rfl rfl (by simp) (argE [PV r p (wd A) h n] 0) (argE_ok _) ?_
  refine e_seq ?_
  refine e_plain ?_
  refine e_box 0 rfl rfl fun r1 => ?_
  refine e_alloc 1 zer26 rfl fun r2 => ?_
  refine e_assign rfl rfl ?_
  refine e_nil ?_
  refine e_seq ?_
  refine e_seq ?_
  refine e_plain ?_
  refine e_loadA (i := 0) und28 rfl siz28 rfl rfl (arrv_size _ _) rfl ⟨[], trivial⟩ ?_
  refine e_call rfl ent12 (fault_fn r p (wd A) h n (wd_lt _ 0) (wd_lt _ 1) hr0 hr1) rfl rfl ?_
  refine e_as (congrArg ii (if_pos hok)) ?_
  refine e_assign rfl rfl ?_
  refine e_nil ?_
  refine e_seq ?_
  refine e_plain ?_
  refine e_move rfl rfl ?_
  refine e_ne rfl rfl rfl ?_
  refine e_nil ?_
  refine e_cond rfl ?_ ?_
  · intro hc0
    exact absurd hc0 (by decide)
  · intro hc0
    refine e_skip ?_
    refine e_seq ?_
    refine e_seq ?_
    refine e_plain ?_
    refine e_fld (7) und28 rfl siz26 rfl rfl rfl ?_
    refine e_ldC (i := 0) 3 und26 rfl siz26 rfl rfl rfl (by decide) rfl ⟨[], trivial⟩ ?_
    refine e_alloc 2 zer26 rfl fun r3 => ?_
    refine e_storeA (i := 2) siz26 rfl rfl (arr_size _ _ _) arr_one rfl (arr_sz _ _ _ _ _) (.inl rfl) ?_
    refine e_nil ?_
    refine e_seq ?_
    refine e_plain ?_
    refine e_fld (23) und28 rfl siz3 rfl rfl rfl ?_
    refine e_ldV1 (i := 0) 4 und3 rfl rfl rfl rfl (by decide) rfl ⟨[], trivial⟩ ?_
    refine e_gt rfl rfl rfl ?_
    refine e_nil ?_
    refine e_cond rfl ?_ ?_
    · intro hc1
      exact absurd (of_decide_eq_true hc1) (by omega)
    · intro hc1
      refine e_skip ?_
      refine e_seq ?_
      refine e_plain ?_
      refine e_alloc 3 zer26 rfl fun r4 => ?_
      refine e_nil ?_
      refine e_seq ?_
      refine e_draw mixed (by kernel_rfl) ?_
      refine e_fld (4) und28 rfl siz25 rfl rfl rfl ?_
      refine e_at (4) (j := 0) und25 siz23 rfl rfl (by omega) (by omega) rfl ?_
      refine e_ldI (i := 0) 2 (0) und23 rfl rfl rfl rfl rfl (by decide) (by decide) rfl ⟨[], trivial⟩ ?_
      refine e_call rfl ent24 (low_fn _ 8 (wd_lt _ 0) (by decide)) rfl rfl ?_
      refine e_fld (4) und28 rfl siz25 rfl rfl rfl ?_
      refine e_at (5) (j := 1) und25 siz23 rfl rfl (by omega) (by omega) rfl ?_
      refine e_ldI (i := 0) 2 (1) und23 rfl rfl rfl rfl rfl (by decide) (by decide) rfl ⟨[], trivial⟩ ?_
      refine e_call rfl ent24 (low_fn _ 8 (wd_lt _ 1) (by decide)) rfl rfl ?_
      refine e_catS rfl rfl rfl (by simp [lowl_len]) ?_
      refine e_as (show _ = sv (lw (wd A)) from rfl) ?_
      refine e_assign rfl rfl ?_
      refine e_nil ?_
      refine e_seq ?_
      refine e_draw mixed (by kernel_rfl) ?_
      refine e_fld (2) und28 rfl siz24 rfl rfl rfl ?_
      refine e_at (2) (j := 0) und24 siz23 rfl rfl (by omega) (by omega) rfl ?_
      refine e_ldI (i := 0) 1 (0) und23 rfl rfl rfl rfl rfl (by decide) (by decide) rfl ⟨[], trivial⟩ ?_
      refine e_call rfl ent24 (low_fn _ 8 hp0 (by decide)) rfl rfl ?_
      refine e_fld (2) und28 rfl siz24 rfl rfl rfl ?_
      refine e_at (3) (j := 1) und24 siz23 rfl rfl (by omega) (by omega) rfl ?_
      refine e_ldI (i := 0) 1 (1) und23 rfl rfl rfl rfl rfl (by decide) (by decide) rfl ⟨[], trivial⟩ ?_
      refine e_call rfl ent24 (low_fn _ 8 hp1 (by decide)) rfl rfl ?_
      refine e_catS rfl rfl rfl (by simp [lowl_len]) ?_
      refine e_as (show _ = sv (lw p) from rfl) ?_
      refine e_assign rfl rfl ?_
      refine e_nil ?_
      refine e_seq ?_
      refine e_plain ?_
      refine e_assign rfl rfl ?_
      refine e_nil ?_
      refine e_seq ?_
      refine e_seq ?_
      refine e_plain ?_
      refine e_move rfl rfl ?_
      refine e_nil ?_
      refine e_block ?_
      refine e_loop (fun kk E m => ∃ (i : Nat) (s : Nat → Nat), kk = 16 - i ∧ E = [(2, ptr r2), (3, ii 0), (6, ptr r4), (7, sv (lw (wd A))), (8, sv (lw p)), (9, ii (cr (k3 (wd A)) (k3 p) i)), (46, ii i)] ∧ m = [(0, some ⟨r1, cells 24 [pI .u64 2 r, pI .u64 2 p, pI .u64 3 (wd A), pI .u8 16 h, pV (.int .i64 n)], 28⟩), (1, some ⟨r2, arr .u8 16 (fun _ => 0), 26⟩), (2, some ⟨r3, arr .u8 16 h, 26⟩), (3, some ⟨r4, arr .u8 16 s, 26⟩)] ∧ (i ≤ 16) ∧ (∀ j, j < i → s j = tgn (k3 (wd A)) (k3 p) j)) [(2, ptr r2), (3, ii 0), (6, ptr r4), (7, sv (lw (wd A))), (8, sv (lw p)), (9, ii (cr (k3 (wd A)) (k3 p) 0)), (46, ii 0)] [(0, some ⟨r1, cells 24 [pI .u64 2 r, pI .u64 2 p, pI .u64 3 (wd A), pI .u8 16 h, pV (.int .i64 n)], 28⟩), (1, some ⟨r2, arr .u8 16 (fun _ => 0), 26⟩), (2, some ⟨r3, arr .u8 16 h, 26⟩), (3, some ⟨r4, arr .u8 16 (fun _ => 0), 26⟩)] (16 - 0) ⟨rfl, rfl, rfl, rfl, rfl, by rw [cr_zero]; rfl, rfl, trivial⟩ ⟨rfl, rfl, rfl, rfl, trivial⟩ ⟨0, fun _ => 0, rfl, rfl, rfl, by omega, fun j hj => absurd hj (Nat.not_lt_zero j)⟩ ?_
      rintro kk E m ⟨i, s, rfl, rfl, rfl, hf0_0, hf0_1⟩
      have hci := cr_le (k3 (wd A)) (k3 p) i
      have hx8 : (k3 (wd A)) / 256 ^ i % 256 < 256 := Nat.mod_lt _ (by decide)
      have hy8 : (k3 p) / 256 ^ i % 256 < 256 := Nat.mod_lt _ (by decide)
      refine e_seq ?_
      refine e_plain ?_
      refine e_lt rfl rfl rfl ?_
      refine e_nil ?_
      refine e_seq ?_
      refine e_cond rfl ?_ ?_
      · intro hc2
        have hc2 := of_decide_eq_true hc2
        refine e_skip ?_
        refine e_seq ?_
        refine e_block ?_
        refine e_seq ?_
        refine e_plain ?_
        refine e_move rfl rfl ?_
        refine e_assign rfl rfl ?_
        refine e_nil ?_
        refine e_seq ?_
        refine e_draw mixed (by kernel_rfl) ?_
        refine e_move rfl rfl ?_
        refine e_move rfl rfl ?_
        refine e_move rfl rfl ?_
        refine e_idxStr und9 rfl rfl (lw_get (wd_lt _ 0) (by omega)) (by omega) rfl ?_
        refine e_conv_i und5 und3 rfl rfl rfl (by omega) ?_
        refine e_move rfl rfl ?_
        refine e_move rfl rfl ?_
        refine e_idxStr und9 rfl rfl (lw_get hp0 (by omega)) (by omega) rfl ?_
        refine e_conv_i und5 und3 rfl rfl rfl (by omega) ?_
        refine e_add_i rfl rfl rfl (by omega) ?_
        refine e_add_i rfl rfl rfl (by omega) ?_
        refine e_assign rfl rfl ?_
        refine e_nil ?_
        refine e_seq ?_
        refine e_plain ?_
        refine e_move rfl rfl ?_
        refine e_move rfl rfl ?_
        refine e_conv_u8 und3 und5 rfl rfl rfl ?_
        refine e_index0 und26 siz5 rfl rfl (by omega) rfl ?_
        refine e_storeN (i := 3) siz5 rfl rfl rfl (by omega) (.inl rfl) ?_
        refine e_nil ?_
        refine e_plain ?_
        refine e_move rfl rfl ?_
        refine e_quo_i (q := 256) rfl rfl rfl (by omega) (by omega) ?_
        refine e_assign rfl rfl ?_
        refine e_nil ?_
        refine e_plain ?_
        refine e_add_i (q := 1) rfl rfl rfl (by omega) ?_
        refine e_move rfl rfl ?_
        refine e_nil ?_
        refine ⟨_, [(2, ptr r2), (3, ii 0), (6, ptr r4), (7, sv (lw (wd A))), (8, sv (lw p)), (9, ii (cr (k3 (wd A)) (k3 p) (i + 1))), (46, ii (i + 1))], [(0, some ⟨r1, cells 24 [pI .u64 2 r, pI .u64 2 p, pI .u64 3 (wd A), pI .u8 16 h, pV (.int .i64 n)], 28⟩), (1, some ⟨r2, arr .u8 16 (fun _ => 0), 26⟩), (2, some ⟨r3, arr .u8 16 h, 26⟩), (3, some ⟨r4, arr .u8 16 (upd s i _), 26⟩)], ?_, ⟨rfl, rfl, rfl, rfl, rfl, by rw [← cr_next]; rfl, rfl, trivial⟩, ⟨rfl, rfl, rfl, rfl, trivial⟩, i + 1, upd s i _, rfl, rfl, rfl, by omega, upd_lt hf0_1 (tgn_at (k3 (wd A)) (k3 p) i)⟩
        omega
      · intro hc2
        have hc2 := of_decide_eq_false hc2
        have hi16 : i = 16 := by omega
        subst hi16
        refine e_exit ?_
        refine e_seq ?_
        refine e_plain ?_
        refine e_loadA (i := 3) und26 rfl siz26 rfl rfl (arr_size _ _ _) rfl ⟨[], trivial⟩ ?_
        refine e_as (congrArg Value.agg (arr_congr hf0_1)) ?_
        refine e_storeA (i := 1) siz26 rfl rfl (arr_size _ _ _) arr_one rfl (arr_sz _ _ _ _ _) (.inl rfl) ?_
        refine e_assign rfl rfl ?_
        refine e_nil ?_
        refine e_ret ?_
        exact ⟨_, _, rfl, .cell (i := 1) rfl rfl und26 rfl siz26 (arr_size _ _ _), .tmp rfl⟩

set_option maxHeartbeats 4000000 in
theorem ended_some (r p : Nat → Nat) (A : Nat) (h : Nat → Nat) (n : Nat) (hr0 : r 0 < 18446744073709551616) (hr1 : r 1 < 18446744073709551616) (hp0 : p 0 < 18446744073709551616) (hp1 : p 1 < 18446744073709551616) (hA : A < 2 ^ 130) (hh : ∀ j, j < 16 → h j < 256) (hn : 0 < n) (hn2 : n < 16) (hok : (okcd r (wd A) n && okh n h 16) = true) : Fn Try.prog G 16 #[PV r p (wd A) h n] (.tuple #[.agg (arr .u8 16 (tgn (k3 (wd (pst (k3 r) A ((List.range n).map h)))) (k3 p))), ii 0]) := by
  refine fn2 (n := 68) Try.func16 rfl rfl (by simp) (argE [PV r p (wd A) h n] 0) (argE_ok _) ?_
  refine e_seq ?_
  refine e_plain ?_
  refine e_box 0 rfl rfl fun r1 => ?_
  refine e_alloc 1 zer26 rfl fun r2 => ?_
  refine e_assign rfl rfl ?_
  refine e_nil ?_
  refine e_seq ?_
  refine e_seq ?_
  refine e_plain ?_
  refine e_loadA (i := 0) und28 rfl siz28 rfl rfl (arrv_size _ _) rfl ⟨[], trivial⟩ ?_
  refine e_call rfl ent12 (fault_fn r p (wd A) h n (wd_lt _ 0) (wd_lt _ 1) hr0 hr1) rfl rfl ?_
  refine e_as (congrArg ii (if_pos hok)) ?_
  refine e_assign rfl rfl ?_
  refine e_nil ?_
  refine e_seq ?_
  refine e_plain ?_
  refine e_move rfl rfl ?_
  refine e_ne rfl rfl rfl ?_
  refine e_nil ?_
  refine e_cond rfl ?_ ?_
  · intro hc0
    exact absurd hc0 (by decide)
  · intro hc0
    refine e_skip ?_
    refine e_seq ?_
    refine e_seq ?_
    refine e_plain ?_
    refine e_fld (7) und28 rfl siz26 rfl rfl rfl ?_
    refine e_ldC (i := 0) 3 und26 rfl siz26 rfl rfl rfl (by decide) rfl ⟨[], trivial⟩ ?_
    refine e_alloc 2 zer26 rfl fun r3 => ?_
    refine e_storeA (i := 2) siz26 rfl rfl (arr_size _ _ _) arr_one rfl (arr_sz _ _ _ _ _) (.inl rfl) ?_
    refine e_nil ?_
    refine e_seq ?_
    refine e_plain ?_
    refine e_fld (23) und28 rfl siz3 rfl rfl rfl ?_
    refine e_ldV1 (i := 0) 4 und3 rfl rfl rfl rfl (by decide) rfl ⟨[], trivial⟩ ?_
    refine e_gt rfl rfl rfl ?_
    refine e_nil ?_
    refine e_cond rfl ?_ ?_
    · intro hc1
      refine e_draw mixed (by kernel_rfl) ?_
      refine e_loadA (i := 0) und28 rfl siz28 rfl rfl (arrv_size _ _) rfl ⟨[], trivial⟩ ?_
      refine e_fld (23) und28 rfl siz3 rfl rfl rfl ?_
      refine e_ldV1 (i := 0) 4 und3 rfl rfl rfl rfl (by decide) rfl ⟨[], trivial⟩ ?_
      refine e_sliceA 0 n und26 siz5 rfl rfl rfl rfl ⟨_, rfl⟩ (by omega) (by omega) (by omega) rfl ?_
      refine e_conv_str (i := 2) und33 und5 und9 rfl rfl (by omega) rfl rfl ⟨[], trivial⟩ ?_
      refine e_as (conv_all h n) ?_
      refine e_call rfl ent29 (soaked_fn r p (wd A) h n ((List.range n).map h) (by simp; omega) (by intro b hb; obtain ⟨j, hj, rfl⟩ := List.mem_map.1 hb; exact hh j (by have := List.mem_range.1 hj; omega)) (wd_lt _ 0) (wd_lt _ 1) (wd2_lt hA) hr0 hr1) rfl rfl ?_
      refine e_as (congrArg (fun z => PV r p (wd (pst (k3 r) z ((List.range n).map h))) (fun _ => 0) 0) (w3_wd hA)) ?_
      refine e_storeA (i := 0) siz28 rfl rfl (arrv_size _ _) (cells_one ⟨fun _ => rfl, fun _ => rfl, fun _ => rfl, fun _ => rfl, fun _ => rfl, trivial⟩) rfl cells_sz (.inl rfl) ?_
      refine e_nil ?_
      refine e_seq ?_
      refine e_plain ?_
      refine e_alloc 3 zer26 rfl fun r4 => ?_
      refine e_nil ?_
      refine e_seq ?_
      refine e_draw mixed (by kernel_rfl) ?_
      refine e_fld (4) und28 rfl siz25 rfl rfl rfl ?_
      refine e_at (4) (j := 0) und25 siz23 rfl rfl (by omega) (by omega) rfl ?_
      refine e_ldI (i := 0) 2 (0) und23 rfl rfl rfl rfl rfl (by decide) (by decide) rfl ⟨[], trivial⟩ ?_
      refine e_call rfl ent24 (low_fn _ 8 (wd_lt _ 0) (by decide)) rfl rfl ?_
      refine e_fld (4) und28 rfl siz25 rfl rfl rfl ?_
      refine e_at (5) (j := 1) und25 siz23 rfl rfl (by omega) (by omega) rfl ?_
      refine e_ldI (i := 0) 2 (1) und23 rfl rfl rfl rfl rfl (by decide) (by decide) rfl ⟨[], trivial⟩ ?_
      refine e_call rfl ent24 (low_fn _ 8 (wd_lt _ 1) (by decide)) rfl rfl ?_
      refine e_catS rfl rfl rfl (by simp [lowl_len]) ?_
      refine e_as (show _ = sv (lw (wd (pst (k3 r) A ((List.range n).map h)))) from rfl) ?_
      refine e_assign rfl rfl ?_
      refine e_nil ?_
      refine e_seq ?_
      refine e_draw mixed (by kernel_rfl) ?_
      refine e_fld (2) und28 rfl siz24 rfl rfl rfl ?_
      refine e_at (2) (j := 0) und24 siz23 rfl rfl (by omega) (by omega) rfl ?_
      refine e_ldI (i := 0) 1 (0) und23 rfl rfl rfl rfl rfl (by decide) (by decide) rfl ⟨[], trivial⟩ ?_
      refine e_call rfl ent24 (low_fn _ 8 hp0 (by decide)) rfl rfl ?_
      refine e_fld (2) und28 rfl siz24 rfl rfl rfl ?_
      refine e_at (3) (j := 1) und24 siz23 rfl rfl (by omega) (by omega) rfl ?_
      refine e_ldI (i := 0) 1 (1) und23 rfl rfl rfl rfl rfl (by decide) (by decide) rfl ⟨[], trivial⟩ ?_
      refine e_call rfl ent24 (low_fn _ 8 hp1 (by decide)) rfl rfl ?_
      refine e_catS rfl rfl rfl (by simp [lowl_len]) ?_
      refine e_as (show _ = sv (lw p) from rfl) ?_
      refine e_assign rfl rfl ?_
      refine e_nil ?_
      refine e_seq ?_
      refine e_plain ?_
      refine e_assign rfl rfl ?_
      refine e_nil ?_
      refine e_seq ?_
      refine e_seq ?_
      refine e_plain ?_
      refine e_move rfl rfl ?_
      refine e_nil ?_
      refine e_block ?_
      refine e_loop (fun kk E m => ∃ (i : Nat) (s : Nat → Nat), kk = 16 - i ∧ E = [(2, ptr r2), (3, ii 0), (6, ptr r4), (7, sv (lw (wd (pst (k3 r) A ((List.range n).map h))))), (8, sv (lw p)), (9, ii (cr (k3 (wd (pst (k3 r) A ((List.range n).map h)))) (k3 p) i)), (46, ii i)] ∧ m = [(0, some ⟨r1, cells 24 [pI .u64 2 r, pI .u64 2 p, pI .u64 3 (wd (pst (k3 r) A ((List.range n).map h))), pI .u8 16 (fun _ => 0), pV (.int .i64 0)], 28⟩), (1, some ⟨r2, arr .u8 16 (fun _ => 0), 26⟩), (2, some ⟨r3, arr .u8 16 h, 26⟩), (3, some ⟨r4, arr .u8 16 s, 26⟩)] ∧ (i ≤ 16) ∧ (∀ j, j < i → s j = tgn (k3 (wd (pst (k3 r) A ((List.range n).map h)))) (k3 p) j)) [(2, ptr r2), (3, ii 0), (6, ptr r4), (7, sv (lw (wd (pst (k3 r) A ((List.range n).map h))))), (8, sv (lw p)), (9, ii (cr (k3 (wd (pst (k3 r) A ((List.range n).map h)))) (k3 p) 0)), (46, ii 0)] [(0, some ⟨r1, cells 24 [pI .u64 2 r, pI .u64 2 p, pI .u64 3 (wd (pst (k3 r) A ((List.range n).map h))), pI .u8 16 (fun _ => 0), pV (.int .i64 0)], 28⟩), (1, some ⟨r2, arr .u8 16 (fun _ => 0), 26⟩), (2, some ⟨r3, arr .u8 16 h, 26⟩), (3, some ⟨r4, arr .u8 16 (fun _ => 0), 26⟩)] (16 - 0) ⟨rfl, rfl, rfl, rfl, rfl, by rw [cr_zero]; rfl, rfl, trivial⟩ ⟨rfl, rfl, rfl, rfl, trivial⟩ ⟨0, fun _ => 0, rfl, rfl, rfl, by omega, fun j hj => absurd hj (Nat.not_lt_zero j)⟩ ?_
      rintro kk E m ⟨i, s, rfl, rfl, rfl, hf0_0, hf0_1⟩
      have hci := cr_le (k3 (wd (pst (k3 r) A ((List.range n).map h)))) (k3 p) i
      have hx8 : (k3 (wd (pst (k3 r) A ((List.range n).map h)))) / 256 ^ i % 256 < 256 := Nat.mod_lt _ (by decide)
      have hy8 : (k3 p) / 256 ^ i % 256 < 256 := Nat.mod_lt _ (by decide)
      refine e_seq ?_
      refine e_plain ?_
      refine e_lt rfl rfl rfl ?_
      refine e_nil ?_
      refine e_seq ?_
      refine e_cond rfl ?_ ?_
      · intro hc2
        have hc2 := of_decide_eq_true hc2
        refine e_skip ?_
        refine e_seq ?_
        refine e_block ?_
        refine e_seq ?_
        refine e_plain ?_
        refine e_move rfl rfl ?_
        refine e_assign rfl rfl ?_
        refine e_nil ?_
        refine e_seq ?_
        refine e_draw mixed (by kernel_rfl) ?_
        refine e_move rfl rfl ?_
        refine e_move rfl rfl ?_
        refine e_move rfl rfl ?_
        refine e_idxStr und9 rfl rfl (lw_get (wd_lt _ 0) (by omega)) (by omega) rfl ?_
        refine e_conv_i und5 und3 rfl rfl rfl (by omega) ?_
        refine e_move rfl rfl ?_
        refine e_move rfl rfl ?_
        refine e_idxStr und9 rfl rfl (lw_get hp0 (by omega)) (by omega) rfl ?_
        refine e_conv_i und5 und3 rfl rfl rfl (by omega) ?_
        refine e_add_i rfl rfl rfl (by omega) ?_
        refine e_add_i rfl rfl rfl (by omega) ?_
        refine e_assign rfl rfl ?_
        refine e_nil ?_
        refine e_seq ?_
        refine e_plain ?_
        refine e_move rfl rfl ?_
        refine e_move rfl rfl ?_
        refine e_conv_u8 und3 und5 rfl rfl rfl ?_
        refine e_index0 und26 siz5 rfl rfl (by omega) rfl ?_
        refine e_storeN (i := 3) siz5 rfl rfl rfl (by omega) (.inl rfl) ?_
        refine e_nil ?_
        refine e_plain ?_
        refine e_move rfl rfl ?_
        refine e_quo_i (q := 256) rfl rfl rfl (by omega) (by omega) ?_
        refine e_assign rfl rfl ?_
        refine e_nil ?_
        refine e_plain ?_
        refine e_add_i (q := 1) rfl rfl rfl (by omega) ?_
        refine e_move rfl rfl ?_
        refine e_nil ?_
        refine ⟨_, [(2, ptr r2), (3, ii 0), (6, ptr r4), (7, sv (lw (wd (pst (k3 r) A ((List.range n).map h))))), (8, sv (lw p)), (9, ii (cr (k3 (wd (pst (k3 r) A ((List.range n).map h)))) (k3 p) (i + 1))), (46, ii (i + 1))], [(0, some ⟨r1, cells 24 [pI .u64 2 r, pI .u64 2 p, pI .u64 3 (wd (pst (k3 r) A ((List.range n).map h))), pI .u8 16 (fun _ => 0), pV (.int .i64 0)], 28⟩), (1, some ⟨r2, arr .u8 16 (fun _ => 0), 26⟩), (2, some ⟨r3, arr .u8 16 h, 26⟩), (3, some ⟨r4, arr .u8 16 (upd s i _), 26⟩)], ?_, ⟨rfl, rfl, rfl, rfl, rfl, by rw [← cr_next]; rfl, rfl, trivial⟩, ⟨rfl, rfl, rfl, rfl, trivial⟩, i + 1, upd s i _, rfl, rfl, rfl, by omega, upd_lt hf0_1 (tgn_at (k3 (wd (pst (k3 r) A ((List.range n).map h)))) (k3 p) i)⟩
        omega
      · intro hc2
        have hc2 := of_decide_eq_false hc2
        have hi16 : i = 16 := by omega
        subst hi16
        refine e_exit ?_
        refine e_seq ?_
        refine e_plain ?_
        refine e_loadA (i := 3) und26 rfl siz26 rfl rfl (arr_size _ _ _) rfl ⟨[], trivial⟩ ?_
        refine e_as (congrArg Value.agg (arr_congr hf0_1)) ?_
        refine e_storeA (i := 1) siz26 rfl rfl (arr_size _ _ _) arr_one rfl (arr_sz _ _ _ _ _) (.inl rfl) ?_
        refine e_assign rfl rfl ?_
        refine e_nil ?_
        refine e_ret ?_
        exact ⟨_, _, rfl, .cell (i := 1) rfl rfl und26 rfl siz26 (arr_size _ _ _), .tmp rfl⟩
    · intro hc1
      exact absurd (of_decide_eq_false hc1) (by omega)

end Go.Proofs.Ytmnmhmpklknleaa
