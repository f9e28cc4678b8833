/-
  Walks, written by a program of ours off the loaded functions.
-/
import Derived.Test.YtmhhemhjjpdioaaC1
import Derived.Test.YtmhhemhjjpdioaaCh2
namespace Go.Proofs.Ytmhhemhjjpdioaa
open Go Go.RowKit


theorem ent18 : enters Try.prog 18 = true := by kernel_rfl
theorem ent19 : enters Try.prog 19 = true := by kernel_rfl
theorem ent20 : enters Try.prog 20 = true := by kernel_rfl
theorem ent21 : enters Try.prog 21 = true := by kernel_rfl
theorem siz25 : (Try.prog.info? 25).map (·.size) = some 64 := by kernel_rfl
theorem und24 : Try.prog.underlying 24 = some (.array 12 5) := by kernel_rfl
theorem und25 : Try.prog.underlying 25 = some (.array 64 5) := by kernel_rfl
theorem und41 : Try.prog.underlying 41 = some (.array 32 5) := by kernel_rfl
theorem zer25 : (Try.prog.info? 25).bind (·.zero) = some (.agg (arr .u8 64 fun _ => 0)) := by kernel_rfl

variable {G : Mem}

set_option maxHeartbeats 2000000 in
theorem blockOf_fn (k : Nat → Nat) (c : Nat) (nn : Nat → Nat) (hk : ∀ j, j < 32 → k j < 256) (hn : ∀ j, j < 12 → nn j < 256) (hc : c < 4294967296) : Fn Try.prog G 9 #[.agg (arr .u8 32 k), uw c, .agg (arr .u8 12 nn)] (.agg (arr .u8 64 (blkf k c nn))) := by
  have hal := allb_len k c nn
  have hab := allb_lt (c := c) hk hn
  obtain ⟨A, hA⟩ : ∃ A, A = allb k c nn := ⟨_, rfl⟩
  rw [← hA] at hal hab
  have hbl := outl_len (dbls (wrd A) 10) (wrd A)
  refine fn1 (n := 79) Try.func9 rfl rfl (by simp) (argE [.agg (arr .u8 32 k), uw c, .agg (arr .u8 12 nn)] 0) (argE_ok _) ?_
  refine e_seq ?_
  refine e_plain ?_
  refine e_box 0 rfl rfl fun r1 => ?_
  refine e_box 1 rfl rfl fun r2 => ?_
  refine e_alloc 2 zer25 rfl fun r3 => ?_
  refine e_nil ?_
  refine e_seq ?_
  refine e_draw mixed (by kernel_rfl) ?_
  refine e_sliceA 0 32 und41 siz5 rfl rfl rfl rfl rfl (by omega) (by omega) (by omega) rfl ?_
  refine e_conv_str (i := 0) und28 und5 und9 rfl rfl (by omega) rfl ⟨[], trivial⟩ ?_
  refine e_as (conv_all k 32) ?_
  refine e_catS (l := [101, 120, 112, 97, 110, 100, 32, 51, 50, 45, 98, 121, 116, 101, 32, 107]) rfl rfl rfl (by simp) ?_
  refine e_move rfl rfl ?_
  refine e_conv_u und23 und48 rfl rfl ?_
  refine e_as (congrArg u (Nat.mod_eq_of_lt (show c < 18446744073709551616 by omega))) ?_
  refine e_call rfl ent18 (low_fn c 4 (by omega) (by decide)) rfl rfl ?_
  refine e_catS rfl rfl rfl (by simp [lowl_len]) ?_
  refine e_sliceA 0 12 und24 siz5 rfl rfl rfl rfl rfl (by omega) (by omega) (by omega) rfl ?_
  refine e_conv_str (i := 1) und28 und5 und9 rfl rfl (by omega) rfl ⟨[], trivial⟩ ?_
  refine e_as (conv_all nn 12) ?_
  refine e_catS rfl rfl rfl (by simp [lowl_len]) ?_
  refine e_as (congrArg sv hA.symm) ?_
  refine e_assign rfl rfl ?_
  refine e_nil ?_
  refine e_seq ?_
  refine e_plain ?_
  refine e_alloc 3 zer50 rfl fun r4 => ?_
  refine e_nil ?_
  refine e_seq ?_
  refine e_seq ?_
  refine e_plain ?_
  refine e_move rfl rfl ?_
  refine e_nil ?_
  refine e_block ?_
  refine e_loop (fun kk E m => ∃ (i : Nat) (s : Nat → Nat), kk = 16 - i ∧ E = [(6, ptr r3), (7, sv A), (8, ptr r4), (24, ii i)] ∧ m = [(0, some ⟨r1, arr .u8 32 k, 41⟩), (1, some ⟨r2, arr .u8 12 nn, 24⟩), (2, some ⟨r3, arr .u8 64 (fun _ => 0), 25⟩), (3, some ⟨r4, arr .u32 16 s, 50⟩)] ∧ (i ≤ 16) ∧ (∀ t, t < i → s t = wrd A t)) [(6, ptr r3), (7, sv A), (8, ptr r4), (24, ii 0)] [(0, some ⟨r1, arr .u8 32 k, 41⟩), (1, some ⟨r2, arr .u8 12 nn, 24⟩), (2, some ⟨r3, arr .u8 64 (fun _ => 0), 25⟩), (3, some ⟨r4, arr .u32 16 (fun _ => 0), 50⟩)] (16 - 0) ⟨rfl, rfl, rfl, rfl, trivial⟩ ⟨rfl, rfl, rfl, rfl, trivial⟩ ⟨0, fun _ => 0, rfl, rfl, rfl, by omega, fun t ht => absurd ht (Nat.not_lt_zero t)⟩ ?_
  rintro kk E m ⟨i, s, rfl, rfl, rfl, hf0_0, hf0_1⟩
  refine e_seq ?_
  refine e_plain ?_
  refine e_lt rfl rfl rfl ?_
  refine e_nil ?_
  refine e_seq ?_
  refine e_cond rfl ?_ ?_
  · intro hc0
    have hc0 := of_decide_eq_true hc0
    refine e_skip ?_
    refine e_seq ?_
    refine e_block ?_
    refine e_seq ?_
    refine e_plain ?_
    refine e_move rfl rfl ?_
    refine e_assign rfl rfl ?_
    refine e_nil ?_
    refine e_draw mixed (by kernel_rfl) ?_
    refine e_move rfl rfl ?_
    refine e_quo_i (q := 4) rfl rfl rfl (by omega) (by omega) ?_
    refine e_move rfl rfl ?_
    refine e_rem_i (q := 4) rfl rfl rfl (by omega) ?_
    refine e_move rfl rfl ?_
    refine e_move rfl rfl ?_
    refine e_mul_i (p := 4) rfl rfl rfl (by omega) ?_
    refine e_move rfl rfl ?_
    refine e_mul_i (p := 4) rfl rfl rfl (by omega) ?_
    refine e_add_i (q := 4) rfl rfl rfl (by omega) ?_
    refine e_sliceStr (4 * i) (4 * i + 4) und9 rfl rfl rfl ⟨_, rfl⟩ ⟨_, rfl⟩ (by omega) (by omega) rfl ?_
    refine e_as (congrArg (fun z => sv ((A.drop (4 * i)).take z)) (show 4 * i + 4 - 4 * i = 4 by omega)) ?_
    refine e_call rfl ent19 (number_fn _ (cut4_len A i) (cut4_lt hab i)) rfl rfl ?_
    refine e_conv_w und48 und23 rfl rfl ?_
    refine e_as (congrArg uw (Nat.mod_eq_of_lt (wrd_lt hab i))) ?_
    refine e_at (4 * (i / 4)) und50 siz49 rfl rfl (by omega) (by omega) rfl ?_
    refine e_at (i) und49 siz23 rfl rfl (by omega) (by omega) rfl ?_
    refine e_storeN (i := 3) siz23 rfl rfl rfl (by omega) (.inl rfl) ?_
    refine e_nil ?_
    refine e_plain ?_
    refine e_add_i (q := 1) rfl rfl rfl (by omega) ?_
    refine e_move rfl rfl ?_
    refine e_nil ?_
    refine ⟨_, [(6, ptr r3), (7, sv A), (8, ptr r4), (24, ii (i + 1))], [(0, some ⟨r1, arr .u8 32 k, 41⟩), (1, some ⟨r2, arr .u8 12 nn, 24⟩), (2, some ⟨r3, arr .u8 64 (fun _ => 0), 25⟩), (3, some ⟨r4, arr .u32 16 (upd s i _), 50⟩)], ?_, ⟨rfl, rfl, rfl, rfl, trivial⟩, ⟨rfl, rfl, rfl, rfl, trivial⟩, i + 1, upd s i _, rfl, rfl, rfl, by omega, upd_lt hf0_1 rfl⟩
    omega
  · intro hc0
    have hc0 := of_decide_eq_false hc0
    have hi16 : i = 16 := by omega
    subst hi16
    have hse : arr .u32 16 s = arr .u32 16 (wrd A) := arr_congr hf0_1
    rw [hse]
    refine e_exit ?_
    refine e_seq ?_
    refine e_plain ?_
    refine e_loadA (i := 3) und50 rfl siz50 rfl rfl (arr_size _ _ _) rfl ⟨[], trivial⟩ ?_
    refine e_alloc 4 zer50 rfl fun r5 => ?_
    refine e_storeA (i := 4) siz50 rfl rfl (arr_size _ _ _) arr_one rfl (arr_sz _ _ _ _ _) (.inl rfl) ?_
    refine e_nil ?_
    refine e_seq ?_
    refine e_seq ?_
    refine e_plain ?_
    refine e_move rfl rfl ?_
    refine e_nil ?_
    refine e_block ?_
    refine e_loop (fun kk E m => ∃ (n : Nat), kk = 10 - n ∧ E = [(6, ptr r3), (8, ptr r4), (10, ptr r5), (44, ii n)] ∧ m = [(0, some ⟨r1, arr .u8 32 k, 41⟩), (1, some ⟨r2, arr .u8 12 nn, 24⟩), (2, some ⟨r3, arr .u8 64 (fun _ => 0), 25⟩), (3, some ⟨r4, arr .u32 16 (wrd A), 50⟩), (4, some ⟨r5, arr .u32 16 (dbls (wrd A) n), 50⟩)] ∧ (n ≤ 10)) [(6, ptr r3), (8, ptr r4), (10, ptr r5), (44, ii 0)] [(0, some ⟨r1, arr .u8 32 k, 41⟩), (1, some ⟨r2, arr .u8 12 nn, 24⟩), (2, some ⟨r3, arr .u8 64 (fun _ => 0), 25⟩), (3, some ⟨r4, arr .u32 16 (wrd A), 50⟩), (4, some ⟨r5, arr .u32 16 (dbls (wrd A) 0), 50⟩)] (10 - 0) ⟨rfl, rfl, rfl, rfl, trivial⟩ ⟨rfl, rfl, rfl, rfl, rfl, trivial⟩ ⟨0, rfl, rfl, rfl, by omega⟩ ?_
    rintro kk E m ⟨n, rfl, rfl, rfl, hf1_0⟩
    refine e_seq ?_
    refine e_plain ?_
    refine e_lt rfl rfl rfl ?_
    refine e_nil ?_
    refine e_seq ?_
    refine e_cond rfl ?_ ?_
    · intro hc1
      have hc1 := of_decide_eq_true hc1
      refine e_skip ?_
      refine e_seq ?_
      refine e_block ?_
      refine e_plain ?_
      refine e_loadA (i := 4) und50 rfl siz50 rfl rfl (arr_size _ _ _) rfl ⟨[], trivial⟩ ?_
      refine e_call rfl ent21 (round_fn _) rfl rfl ?_
      refine e_call rfl ent20 (sh1_fn _) rfl rfl ?_
      refine e_call rfl ent21 (round_fn _) rfl rfl ?_
      refine e_call rfl ent20 (shm_fn _) rfl rfl ?_
      refine e_storeA (i := 4) siz50 rfl rfl (arr_size _ _ _) arr_one rfl (arr_sz _ _ _ _ _) (.inl rfl) ?_
      refine e_nil ?_
      refine e_plain ?_
      refine e_add_i (q := 1) rfl rfl rfl (by omega) ?_
      refine e_move rfl rfl ?_
      refine e_nil ?_
      refine ⟨_, [(6, ptr r3), (8, ptr r4), (10, ptr r5), (44, ii (n + 1))], [(0, some ⟨r1, arr .u8 32 k, 41⟩), (1, some ⟨r2, arr .u8 12 nn, 24⟩), (2, some ⟨r3, arr .u8 64 (fun _ => 0), 25⟩), (3, some ⟨r4, arr .u32 16 (wrd A), 50⟩), (4, some ⟨r5, arr .u32 16 (dbls (wrd A) (n + 1)), 50⟩)], ?_, ⟨rfl, rfl, rfl, rfl, trivial⟩, ⟨rfl, rfl, rfl, rfl, rfl, trivial⟩, n + 1, rfl, rfl, rfl, by omega⟩
      omega
    · intro hc1
      have hc1 := of_decide_eq_false hc1
      have hn10 : n = 10 := by omega
      subst hn10
      refine e_exit ?_
      refine e_seq ?_
      refine e_plain ?_
      refine e_assign (v := sv []) rfl rfl ?_
      refine e_nil ?_
      refine e_seq ?_
      refine e_seq ?_
      refine e_plain ?_
      refine e_move rfl rfl ?_
      refine e_nil ?_
      refine e_block ?_
      refine e_loop (fun kk E m => ∃ (q : Nat), kk = 16 - q ∧ E = [(6, ptr r3), (8, ptr r4), (10, ptr r5), (11, sv (outl (dbls (wrd A) 10) (wrd A) q)), (52, ii q)] ∧ m = [(0, some ⟨r1, arr .u8 32 k, 41⟩), (1, some ⟨r2, arr .u8 12 nn, 24⟩), (2, some ⟨r3, arr .u8 64 (fun _ => 0), 25⟩), (3, some ⟨r4, arr .u32 16 (wrd A), 50⟩), (4, some ⟨r5, arr .u32 16 (dbls (wrd A) 10), 50⟩)] ∧ (q ≤ 16)) [(6, ptr r3), (8, ptr r4), (10, ptr r5), (11, sv (outl (dbls (wrd A) 10) (wrd A) 0)), (52, ii 0)] [(0, some ⟨r1, arr .u8 32 k, 41⟩), (1, some ⟨r2, arr .u8 12 nn, 24⟩), (2, some ⟨r3, arr .u8 64 (fun _ => 0), 25⟩), (3, some ⟨r4, arr .u32 16 (wrd A), 50⟩), (4, some ⟨r5, arr .u32 16 (dbls (wrd A) 10), 50⟩)] (16 - 0) ⟨rfl, rfl, rfl, rfl, rfl, trivial⟩ ⟨rfl, rfl, rfl, rfl, rfl, trivial⟩ ⟨0, rfl, rfl, rfl, by omega⟩ ?_
      rintro kk E m ⟨q, rfl, rfl, rfl, hf2_0⟩
      have hbq := hbl q
      refine e_seq ?_
      refine e_plain ?_
      refine e_lt rfl rfl rfl ?_
      refine e_nil ?_
      refine e_seq ?_
      refine e_cond rfl ?_ ?_
      · intro hc2
        have hc2 := of_decide_eq_true hc2
        refine e_skip ?_
        refine e_seq ?_
        refine e_block ?_
        refine e_seq ?_
        refine e_plain ?_
        refine e_move rfl rfl ?_
        refine e_assign rfl rfl ?_
        refine e_nil ?_
        refine e_draw mixed (by kernel_rfl) ?_
        refine e_move rfl rfl ?_
        refine e_move rfl rfl ?_
        refine e_quo_i (q := 4) rfl rfl rfl (by omega) (by omega) ?_
        refine e_move rfl rfl ?_
        refine e_rem_i (q := 4) rfl rfl rfl (by omega) ?_
        refine e_at (4 * (q / 4)) und50 siz49 rfl rfl (by omega) (by omega) rfl ?_
        refine e_at (q) und49 siz23 rfl rfl (by omega) (by omega) rfl ?_
        refine e_load1 (i := 4) und23 rfl rfl rfl (arr_get (by omega)) rfl ⟨[], trivial⟩ ?_
        refine e_move rfl rfl ?_
        refine e_quo_i (q := 4) rfl rfl rfl (by omega) (by omega) ?_
        refine e_move rfl rfl ?_
        refine e_rem_i (q := 4) rfl rfl rfl (by omega) ?_
        refine e_at (4 * (q / 4)) und50 siz49 rfl rfl (by omega) (by omega) rfl ?_
        refine e_at (q) und49 siz23 rfl rfl (by omega) (by omega) rfl ?_
        refine e_load1 (i := 3) und23 rfl rfl rfl (arr_get (by omega)) rfl ⟨[], trivial⟩ ?_
        refine e_add_w rfl rfl rfl  ?_
        refine e_conv_u und23 und48 rfl rfl ?_
        refine e_as (congrArg u (Nat.mod_eq_of_lt (Nat.lt_trans (Nat.mod_lt _ (by decide)) (by decide)))) ?_
        refine e_call rfl ent18 (low_fn _ 4 (Nat.lt_trans (Nat.mod_lt _ (by decide)) (by decide)) (by decide)) rfl rfl ?_
        refine e_catS rfl rfl rfl (by rw [lowl_len]; omega) ?_
        refine e_assign rfl rfl ?_
        refine e_nil ?_
        refine e_plain ?_
        refine e_add_i (q := 1) rfl rfl rfl (by omega) ?_
        refine e_move rfl rfl ?_
        refine e_nil ?_
        refine ⟨_, [(6, ptr r3), (8, ptr r4), (10, ptr r5), (11, sv (outl (dbls (wrd A) 10) (wrd A) (q + 1))), (52, ii (q + 1))], [(0, some ⟨r1, arr .u8 32 k, 41⟩), (1, some ⟨r2, arr .u8 12 nn, 24⟩), (2, some ⟨r3, arr .u8 64 (fun _ => 0), 25⟩), (3, some ⟨r4, arr .u32 16 (wrd A), 50⟩), (4, some ⟨r5, arr .u32 16 (dbls (wrd A) 10), 50⟩)], ?_, ⟨rfl, rfl, rfl, rfl, rfl, trivial⟩, ⟨rfl, rfl, rfl, rfl, rfl, trivial⟩, q + 1, rfl, rfl, rfl, by omega⟩
        omega
      · intro hc2
        have hc2 := of_decide_eq_false hc2
        have hq16 : q = 16 := by omega
        subst hq16
        refine e_exit ?_
        refine e_seq ?_
        refine e_plain ?_
        refine e_alloc 5 zer25 rfl fun r6 => ?_
        refine e_nil ?_
        refine e_seq ?_
        refine e_plain ?_
        refine e_sliceA 0 64 und25 siz5 rfl rfl rfl rfl rfl (by omega) (by omega) (by omega) rfl ?_
        refine e_move rfl rfl ?_
        refine e_copyStr (i := 5) und28 siz5 rfl rfl (outl_lt _ _ 16) rfl (by omega) rfl ?_
        refine e_nil ?_
        refine e_seq ?_
        refine e_plain ?_
        refine e_loadA (i := 5) und25 rfl siz25 rfl rfl (arr_size _ _ _) rfl ⟨[], trivial⟩ ?_
        refine e_as (congrArg Value.agg (copy_end _ (hbl 16))) ?_
        refine e_storeA (i := 2) siz25 rfl rfl (arr_size _ _ _) arr_one rfl (arr_sz _ _ _ _ _) (.inl rfl) ?_
        refine e_nil ?_
        refine e_ret ?_
        subst hA
        exact ⟨_, rfl, .cell (i := 2) rfl rfl und25 rfl siz25 (arr_size _ _ _)⟩

end Go.Proofs.Ytmhhemhjjpdioaa
