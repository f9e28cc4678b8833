/-
  Walks, written by a program of ours off the loaded functions.
-/
import Derived.Test.YtmhhemhjjpdioaaC4
import Derived.Test.YtmhhemhjjpdioaaCh5
namespace Go.Proofs.Ytmhhemhjjpdioaa
open Go Go.RowKit


theorem ent24 : enters Try.prog 24 = true := by kernel_rfl
theorem ent25 : enters Try.prog 25 = true := by kernel_rfl
theorem siz44 : (Try.prog.info? 44).map (·.size) = some 16 := by kernel_rfl
theorem und44 : Try.prog.underlying 44 = some (.array 16 23) := by kernel_rfl
theorem und58 : Try.prog.underlying 58 = some (.int .u64) := by kernel_rfl
theorem zer44 : (Try.prog.info? 44).bind (·.zero) = some (.agg (arr .u32 16 fun _ => 0)) := by kernel_rfl

variable {G : Mem}

set_option maxHeartbeats 400000 in
theorem rot32_fn (x s : Nat) (hs : s < 32) : Fn Try.prog G 25 #[uw x, ii s] (uw (rotl x s)) := by
  refine fn1 (n := 17) Try.func25 rfl rfl (by simp) (argE [uw x, ii s] 0) (argE_ok _) ?_
  refine e_seq ?_
  refine e_plain ?_
  refine e_assign rfl rfl ?_
  refine e_nil ?_
  refine e_seq ?_
  refine e_plain ?_
  refine e_move rfl rfl ?_
  refine e_conv_u und3 und58 rfl rfl ?_
  refine e_as (congrArg u (Nat.mod_eq_of_lt (show s < 18446744073709551616 by omega))) ?_
  refine e_and_u (q := 31) rfl rfl rfl  ?_
  refine e_as (congrArg u (and31 hs)) ?_
  refine e_assign rfl rfl ?_
  refine e_nil ?_
  refine e_seq ?_
  refine e_plain ?_
  refine e_move rfl rfl ?_
  refine e_move rfl rfl ?_
  refine e_shl_w rfl rfl rfl (by omega) ?_
  refine e_move rfl rfl ?_
  refine e_move rfl rfl ?_
  refine e_sub_u (p := 32) rfl rfl rfl (by omega) ?_
  refine e_as (congrArg u (show (32 + 18446744073709551616 - s) % 18446744073709551616 = 32 - s by omega)) ?_
  refine e_shr_w rfl rfl rfl (by omega) ?_
  refine e_or_w rfl rfl rfl  ?_
  refine e_assign rfl rfl ?_
  refine e_nil ?_
  refine e_ret ?_
  exact ⟨_, rfl, .tmp rfl⟩

set_option maxHeartbeats 400000 in
theorem quarter_fn (f : Nat → Nat) (r a b c d : Nat) (ha : a < 16) (hb : b < 16) (hc : c < 16) (hd : d < 16) : Fx Try.prog G [⟨r, arr .u32 16 f, 44⟩] 24 #[ii a, ii b, ii c, ii d, ptr r] (fun v l1 nw => v = .tuple #[] ∧ l1 = [⟨r, arr .u32 16 (qst f a b c d), 44⟩] ∧ nw = []) := by
  refine fxW (n := 81) Try.func24 rfl rfl (by simp) (argE [ii a, ii b, ii c, ii d, ptr r] 0) (argE_ok _) ?_
  refine e_seq ?_
  refine e_draw mixed (by kernel_rfl) ?_
  refine e_move rfl rfl ?_
  refine e_index0 und44 siz23 rfl rfl (by omega) rfl ?_
  refine e_load1 (i := 0) und23 rfl rfl rfl (arr_get (by omega)) rfl ⟨[], trivial⟩ ?_
  refine e_move rfl rfl ?_
  refine e_index0 und44 siz23 rfl rfl (by omega) rfl ?_
  refine e_load1 (i := 0) und23 rfl rfl rfl (arr_get (by omega)) rfl ⟨[], trivial⟩ ?_
  refine e_add_w rfl rfl rfl  ?_
  refine e_index0 und44 siz23 rfl rfl (by omega) rfl ?_
  refine e_storeN (i := 0) siz23 rfl rfl rfl (by omega) (.inl rfl) ?_
  refine e_nil ?_
  refine e_seq ?_
  refine e_draw mixed (by kernel_rfl) ?_
  refine e_move rfl rfl ?_
  refine e_move rfl rfl ?_
  refine e_index0 und44 siz23 rfl rfl (by omega) rfl ?_
  refine e_load1 (i := 0) und23 rfl rfl rfl (arr_get (by omega)) rfl ⟨[], trivial⟩ ?_
  refine e_move rfl rfl ?_
  refine e_index0 und44 siz23 rfl rfl (by omega) rfl ?_
  refine e_load1 (i := 0) und23 rfl rfl rfl (arr_get (by omega)) rfl ⟨[], trivial⟩ ?_
  refine e_xor_w rfl rfl rfl  ?_
  refine e_call rfl ent25 (rot32_fn _ _ (by decide)) rfl rfl ?_
  refine e_index0 und44 siz23 rfl rfl (by omega) rfl ?_
  refine e_storeN (i := 0) siz23 rfl rfl rfl (by omega) (.inl rfl) ?_
  refine e_nil ?_
  refine e_seq ?_
  refine e_draw mixed (by kernel_rfl) ?_
  refine e_move rfl rfl ?_
  refine e_index0 und44 siz23 rfl rfl (by omega) rfl ?_
  refine e_load1 (i := 0) und23 rfl rfl rfl (arr_get (by omega)) rfl ⟨[], trivial⟩ ?_
  refine e_move rfl rfl ?_
  refine e_index0 und44 siz23 rfl rfl (by omega) rfl ?_
  refine e_load1 (i := 0) und23 rfl rfl rfl (arr_get (by omega)) rfl ⟨[], trivial⟩ ?_
  refine e_add_w rfl rfl rfl  ?_
  refine e_index0 und44 siz23 rfl rfl (by omega) rfl ?_
  refine e_storeN (i := 0) siz23 rfl rfl rfl (by omega) (.inl rfl) ?_
  refine e_nil ?_
  refine e_seq ?_
  refine e_draw mixed (by kernel_rfl) ?_
  refine e_move rfl rfl ?_
  refine e_move rfl rfl ?_
  refine e_index0 und44 siz23 rfl rfl (by omega) rfl ?_
  refine e_load1 (i := 0) und23 rfl rfl rfl (arr_get (by omega)) rfl ⟨[], trivial⟩ ?_
  refine e_move rfl rfl ?_
  refine e_index0 und44 siz23 rfl rfl (by omega) rfl ?_
  refine e_load1 (i := 0) und23 rfl rfl rfl (arr_get (by omega)) rfl ⟨[], trivial⟩ ?_
  refine e_xor_w rfl rfl rfl  ?_
  refine e_call rfl ent25 (rot32_fn _ _ (by decide)) rfl rfl ?_
  refine e_index0 und44 siz23 rfl rfl (by omega) rfl ?_
  refine e_storeN (i := 0) siz23 rfl rfl rfl (by omega) (.inl rfl) ?_
  refine e_nil ?_
  refine e_seq ?_
  refine e_draw mixed (by kernel_rfl) ?_
  refine e_move rfl rfl ?_
  refine e_index0 und44 siz23 rfl rfl (by omega) rfl ?_
  refine e_load1 (i := 0) und23 rfl rfl rfl (arr_get (by omega)) rfl ⟨[], trivial⟩ ?_
  refine e_move rfl rfl ?_
  refine e_index0 und44 siz23 rfl rfl (by omega) rfl ?_
  refine e_load1 (i := 0) und23 rfl rfl rfl (arr_get (by omega)) rfl ⟨[], trivial⟩ ?_
  refine e_add_w rfl rfl rfl  ?_
  refine e_index0 und44 siz23 rfl rfl (by omega) rfl ?_
  refine e_storeN (i := 0) siz23 rfl rfl rfl (by omega) (.inl rfl) ?_
  refine e_nil ?_
  refine e_seq ?_
  refine e_draw mixed (by kernel_rfl) ?_
  refine e_move rfl rfl ?_
  refine e_move rfl rfl ?_
  refine e_index0 und44 siz23 rfl rfl (by omega) rfl ?_
  refine e_load1 (i := 0) und23 rfl rfl rfl (arr_get (by omega)) rfl ⟨[], trivial⟩ ?_
  refine e_move rfl rfl ?_
  refine e_index0 und44 siz23 rfl rfl (by omega) rfl ?_
  refine e_load1 (i := 0) und23 rfl rfl rfl (arr_get (by omega)) rfl ⟨[], trivial⟩ ?_
  refine e_xor_w rfl rfl rfl  ?_
  refine e_call rfl ent25 (rot32_fn _ _ (by decide)) rfl rfl ?_
  refine e_index0 und44 siz23 rfl rfl (by omega) rfl ?_
  refine e_storeN (i := 0) siz23 rfl rfl rfl (by omega) (.inl rfl) ?_
  refine e_nil ?_
  refine e_seq ?_
  refine e_draw mixed (by kernel_rfl) ?_
  refine e_move rfl rfl ?_
  refine e_index0 und44 siz23 rfl rfl (by omega) rfl ?_
  refine e_load1 (i := 0) und23 rfl rfl rfl (arr_get (by omega)) rfl ⟨[], trivial⟩ ?_
  refine e_move rfl rfl ?_
  refine e_index0 und44 siz23 rfl rfl (by omega) rfl ?_
  refine e_load1 (i := 0) und23 rfl rfl rfl (arr_get (by omega)) rfl ⟨[], trivial⟩ ?_
  refine e_add_w rfl rfl rfl  ?_
  refine e_index0 und44 siz23 rfl rfl (by omega) rfl ?_
  refine e_storeN (i := 0) siz23 rfl rfl rfl (by omega) (.inl rfl) ?_
  refine e_nil ?_
  refine e_draw mixed (by kernel_rfl) ?_
  refine e_move rfl rfl ?_
  refine e_move rfl rfl ?_
  refine e_index0 und44 siz23 rfl rfl (by omega) rfl ?_
  refine e_load1 (i := 0) und23 rfl rfl rfl (arr_get (by omega)) rfl ⟨[], trivial⟩ ?_
  refine e_move rfl rfl ?_
  refine e_index0 und44 siz23 rfl rfl (by omega) rfl ?_
  refine e_load1 (i := 0) und23 rfl rfl rfl (arr_get (by omega)) rfl ⟨[], trivial⟩ ?_
  refine e_xor_w rfl rfl rfl  ?_
  refine e_call rfl ent25 (rot32_fn _ _ (by decide)) rfl rfl ?_
  refine e_index0 und44 siz23 rfl rfl (by omega) rfl ?_
  refine e_storeN (i := 0) siz23 rfl rfl rfl (by omega) (.inl rfl) ?_
  refine e_nil ?_
  exact ⟨rfl, 0, rfl⟩

set_option maxHeartbeats 2000000 in
theorem rounds_fn (f : Nat → Nat) : Fn Try.prog G 17 #[.agg (arr .u32 16 f)] (.agg (arr .u32 16 (dbls f 10))) := by
  refine fn1 (n := 43) Try.func17 rfl rfl (by simp) (argE [.agg (arr .u32 16 f)] 0) (argE_ok _) ?_
  refine e_seq ?_
  refine e_plain ?_
  refine e_box 0 rfl rfl fun r1 => ?_
  refine e_alloc 1 zer44 rfl fun r2 => ?_
  refine e_nil ?_
  refine e_seq ?_
  refine e_plain ?_
  refine e_func rfl rfl rfl ?_
  refine e_assign rfl rfl ?_
  refine e_nil ?_
  refine e_seq ?_
  refine e_seq ?_
  refine e_plain ?_
  refine e_move rfl rfl ?_
  refine e_nil ?_
  refine e_block ?_
  refine e_loop (fun kk E m => ∃ (n : Nat), kk = 10 - n ∧ E = [(1, ptr r1), (2, ptr r2), (3, .func (.func 24) #[] #[ptr r1]), (7, ii n)] ∧ m = [(0, some ⟨r1, arr .u32 16 (twoN f n), 44⟩), (1, some ⟨r2, arr .u32 16 (fun _ => 0), 44⟩)] ∧ (n ≤ 10)) [(1, ptr r1), (2, ptr r2), (3, .func (.func 24) #[] #[ptr r1]), (7, ii 0)] [(0, some ⟨r1, arr .u32 16 (twoN f 0), 44⟩), (1, some ⟨r2, arr .u32 16 (fun _ => 0), 44⟩)] (10 - 0) ⟨rfl, rfl, rfl, rfl, trivial⟩ ⟨rfl, rfl, trivial⟩ ⟨0, rfl, rfl, rfl, by omega⟩ ?_
  rintro kk E m ⟨n, rfl, rfl, rfl, hf0_0⟩
  refine e_seq ?_
  refine e_plain ?_
  refine e_lt rfl rfl rfl ?_
  refine e_nil ?_
  refine e_seq ?_
  refine e_cond rfl ?_ ?_
  · intro hc0
    have hc0 := of_decide_eq_true hc0
    refine e_skip ?_
    refine e_seq ?_
    refine e_block ?_
    refine e_seq ?_
    refine e_seq ?_
    refine e_plain ?_
    refine e_move rfl rfl ?_
    refine e_nil ?_
    refine e_block ?_
    refine e_loop (fun kk E m => ∃ (i : Nat), kk = 4 - i ∧ E = [(1, ptr r1), (2, ptr r2), (3, .func (.func 24) #[] #[ptr r1]), (7, ii n), (9, ii i)] ∧ m = [(0, some ⟨r1, arr .u32 16 (colN (twoN f n) i), 44⟩), (1, some ⟨r2, arr .u32 16 (fun _ => 0), 44⟩)] ∧ (i ≤ 4)) [(1, ptr r1), (2, ptr r2), (3, .func (.func 24) #[] #[ptr r1]), (7, ii n), (9, ii 0)] [(0, some ⟨r1, arr .u32 16 (colN (twoN f n) 0), 44⟩), (1, some ⟨r2, arr .u32 16 (fun _ => 0), 44⟩)] (4 - 0) ⟨rfl, rfl, rfl, rfl, rfl, trivial⟩ ⟨rfl, rfl, trivial⟩ ⟨0, rfl, rfl, rfl, by omega⟩ ?_
    rintro kk E m ⟨i, rfl, rfl, rfl, hf1_0⟩
    refine e_seq ?_
    refine e_plain ?_
    refine e_lt rfl rfl rfl ?_
    refine e_nil ?_
    refine e_seq ?_
    refine e_cond rfl ?_ ?_
    · intro hc1
      have hc1 := of_decide_eq_true hc1
      refine e_skip ?_
      refine e_seq ?_
      refine e_block ?_
      refine e_seq ?_
      refine e_plain ?_
      refine e_move rfl rfl ?_
      refine e_assign rfl rfl ?_
      refine e_nil ?_
      refine e_plainR ⟨[], 5⟩ ?_
      refine e_move rfl rfl ?_
      refine e_move rfl rfl ?_
      refine e_move rfl rfl ?_
      refine e_add_i (p := 4) rfl rfl rfl (by omega) ?_
      refine e_move rfl rfl ?_
      refine e_add_i (p := 8) rfl rfl rfl (by omega) ?_
      refine e_move rfl rfl ?_
      refine e_add_i (p := 12) rfl rfl rfl (by omega) ?_
      refine e_callW 0 rfl rfl ent24 rfl (by simp) (quarter_fn (G := []) _ r1 i (4 + i) (8 + i) (12 + i) (by omega) (by omega) (by omega) (by omega)) rfl rfl ?_
      refine e_nil ?_
      refine e_plain ?_
      refine e_add_i (q := 1) rfl rfl rfl (by omega) ?_
      refine e_move rfl rfl ?_
      refine e_nil ?_
      refine ⟨_, [(1, ptr r1), (2, ptr r2), (3, .func (.func 24) #[] #[ptr r1]), (7, ii n), (9, ii (i + 1))], [(0, some ⟨r1, arr .u32 16 (colN (twoN f n) (i + 1)), 44⟩), (1, some ⟨r2, arr .u32 16 (fun _ => 0), 44⟩)], ?_, ⟨rfl, rfl, rfl, rfl, rfl, trivial⟩, ⟨rfl, rfl, trivial⟩, i + 1, rfl, rfl, rfl, by omega⟩
      omega
    · intro hc1
      have hc1 := of_decide_eq_false hc1
      have hz1 : i = 4 := by omega
      subst hz1
      refine e_exit ?_
      refine e_seq ?_
      refine e_plain ?_
      refine e_move rfl rfl ?_
      refine e_nil ?_
      refine e_block ?_
      refine e_loop (fun kk E m => ∃ (j : Nat), kk = 4 - j ∧ E = [(1, ptr r1), (2, ptr r2), (3, .func (.func 24) #[] #[ptr r1]), (7, ii n), (22, ii j)] ∧ m = [(0, some ⟨r1, arr .u32 16 (diaN (colN (twoN f n) 4) j), 44⟩), (1, some ⟨r2, arr .u32 16 (fun _ => 0), 44⟩)] ∧ (j ≤ 4)) [(1, ptr r1), (2, ptr r2), (3, .func (.func 24) #[] #[ptr r1]), (7, ii n), (22, ii 0)] [(0, some ⟨r1, arr .u32 16 (diaN (colN (twoN f n) 4) 0), 44⟩), (1, some ⟨r2, arr .u32 16 (fun _ => 0), 44⟩)] (4 - 0) ⟨rfl, rfl, rfl, rfl, rfl, trivial⟩ ⟨rfl, rfl, trivial⟩ ⟨0, rfl, rfl, rfl, by omega⟩ ?_
      rintro kk E m ⟨j, rfl, rfl, rfl, hf2_0⟩
      refine e_seq ?_
      refine e_plain ?_
      refine e_lt rfl rfl rfl ?_
      refine e_nil ?_
      refine e_seq ?_
      refine e_cond rfl ?_ ?_
      · intro hc2
        have hc2 := of_decide_eq_true hc2
        refine e_skip ?_
        refine e_seq ?_
        refine e_block ?_
        refine e_seq ?_
        refine e_plain ?_
        refine e_move rfl rfl ?_
        refine e_assign rfl rfl ?_
        refine e_nil ?_
        refine e_plainR ⟨[], 5⟩ ?_
        refine e_move rfl rfl ?_
        refine e_move rfl rfl ?_
        refine e_move rfl rfl ?_
        refine e_add_i (q := 1) rfl rfl rfl (by omega) ?_
        refine e_rem_i (q := 4) rfl rfl rfl (by omega) ?_
        refine e_add_i (p := 4) rfl rfl rfl (by omega) ?_
        refine e_move rfl rfl ?_
        refine e_add_i (q := 2) rfl rfl rfl (by omega) ?_
        refine e_rem_i (q := 4) rfl rfl rfl (by omega) ?_
        refine e_add_i (p := 8) rfl rfl rfl (by omega) ?_
        refine e_move rfl rfl ?_
        refine e_add_i (q := 3) rfl rfl rfl (by omega) ?_
        refine e_rem_i (q := 4) rfl rfl rfl (by omega) ?_
        refine e_add_i (p := 12) rfl rfl rfl (by omega) ?_
        refine e_callW 0 rfl rfl ent24 rfl (by simp) (quarter_fn (G := []) _ r1 j (4 + (j + 1) % 4) (8 + (j + 2) % 4) (12 + (j + 3) % 4) (by omega) (by omega) (by omega) (by omega)) rfl rfl ?_
        refine e_nil ?_
        refine e_plain ?_
        refine e_add_i (q := 1) rfl rfl rfl (by omega) ?_
        refine e_move rfl rfl ?_
        refine e_nil ?_
        refine ⟨_, [(1, ptr r1), (2, ptr r2), (3, .func (.func 24) #[] #[ptr r1]), (7, ii n), (22, ii (j + 1))], [(0, some ⟨r1, arr .u32 16 (diaN (colN (twoN f n) 4) (j + 1)), 44⟩), (1, some ⟨r2, arr .u32 16 (fun _ => 0), 44⟩)], ?_, ⟨rfl, rfl, rfl, rfl, rfl, trivial⟩, ⟨rfl, rfl, trivial⟩, j + 1, rfl, rfl, rfl, by omega⟩
        omega
      · intro hc2
        have hc2 := of_decide_eq_false hc2
        have hz2 : j = 4 := by omega
        subst hz2
        refine e_exit ?_
        refine e_plain ?_
        refine e_add_i (q := 1) rfl rfl rfl (by omega) ?_
        refine e_move rfl rfl ?_
        refine e_nil ?_
        refine ⟨_, [(1, ptr r1), (2, ptr r2), (3, .func (.func 24) #[] #[ptr r1]), (7, ii (n + 1))], [(0, some ⟨r1, arr .u32 16 (twoN f (n + 1)), 44⟩), (1, some ⟨r2, arr .u32 16 (fun _ => 0), 44⟩)], ?_, ⟨rfl, rfl, rfl, rfl, trivial⟩, ⟨rfl, rfl, trivial⟩, n + 1, rfl, rfl, rfl, by omega⟩
        omega
  · intro hc0
    have hc0 := of_decide_eq_false hc0
    have hz0 : n = 10 := by omega
    subst hz0
    refine e_exit ?_
    refine e_seq ?_
    refine e_plain ?_
    refine e_loadA (i := 0) und44 rfl siz44 rfl rfl (arr_size _ _ _) rfl ⟨[], trivial⟩ ?_
    refine e_storeA (i := 1) siz44 rfl rfl (arr_size _ _ _) arr_one rfl (arr_sz _ _ _ _ _) (.inl rfl) ?_
    refine e_nil ?_
    refine e_ret ?_
    rw [← arr_congr (k := .u32) (n := 16) (twoN_dbls f 10)]
    exact ⟨_, rfl, .cell (i := 1) rfl rfl und44 rfl siz44 (arr_size _ _ _)⟩

end Go.Proofs.Ytmhhemhjjpdioaa
