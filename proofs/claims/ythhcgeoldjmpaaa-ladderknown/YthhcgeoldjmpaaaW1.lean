/-
  Walks, written by a program of ours off the loaded functions.
-/
import Derived.Test.YthhcgeoldjmpaaaBits
import Derived.Test.YthhcgeoldjmpaaaNum2
namespace Go.Proofs.Ythhcgeoldjmpaaa
open Go Go.RowKit


theorem mixed : Try.prog.follows .mixedOrders = true := by kernel_rfl
theorem ent15 : enters Try.prog 15 = true := by kernel_rfl
theorem ent22 : enters Try.prog 22 = true := by kernel_rfl
theorem ent23 : enters Try.prog 23 = true := by kernel_rfl
theorem ent24 : enters Try.prog 24 = true := by kernel_rfl
theorem ent25 : enters Try.prog 25 = true := by kernel_rfl
theorem ent29 : enters Try.prog 29 = true := by kernel_rfl
theorem siz5 : (Try.prog.info? 5).map (·.size) = some 1 := by kernel_rfl
theorem siz22 : (Try.prog.info? 22).map (·.size) = some 32 := by kernel_rfl
theorem siz34 : (Try.prog.info? 34).map (·.size) = some 1 := by kernel_rfl
theorem siz36 : (Try.prog.info? 36).map (·.size) = some 4 := by kernel_rfl
theorem und5 : Try.prog.underlying 5 = some (.int .u8) := by kernel_rfl
theorem und22 : Try.prog.underlying 22 = some (.array 32 5) := by kernel_rfl
theorem und34 : Try.prog.underlying 34 = some (.int .u64) := by kernel_rfl
theorem und36 : Try.prog.underlying 36 = some (.array 4 34) := by kernel_rfl
theorem zer22 : (Try.prog.info? 22).bind (·.zero) = some (.agg (arr .u8 32 fun _ => 0)) := by kernel_rfl
theorem zer36 : (Try.prog.info? 36).bind (·.zero) = some (.agg (arr .u64 4 fun _ => 0)) := by kernel_rfl

variable {G : Mem}

set_option maxHeartbeats 400000 in
theorem plus_fn (a b : Nat) (ha : a < 2 ^ 256) (hb : b < 2 ^ 256) : Fn Try.prog G 22 #[fe a, fe b] (.tuple #[fe ((a + b) % 2 ^ 256), u ((a + b) / 2 ^ 256)]) := by
  have hfin : car a b 4 = (a + b) / 2 ^ 256 := by
    unfold car
    rw [Nat.mod_eq_of_lt (show a < 2 ^ (64 * 4) from ha), Nat.mod_eq_of_lt (show b < 2 ^ (64 * 4) from hb)]
  refine fn2 (n := 28) Try.func22 rfl rfl (by simp) (argE [fe a, fe b] 0) (argE_ok _) ?_
  refine e_seq ?_
  refine e_plain ?_
  refine e_box 0 rfl rfl fun r1 => ?_
  refine e_box 1 rfl rfl fun r2 => ?_
  refine e_alloc 2 zer36 rfl fun r3 => ?_
  refine e_assign rfl rfl ?_
  refine e_nil ?_
  refine e_seq ?_
  refine e_plain ?_
  refine e_alloc 3 zer36 rfl fun r4 => ?_
  refine e_nil ?_
  refine e_seq ?_
  refine e_plain ?_
  refine e_assign rfl rfl ?_
  refine e_nil ?_
  refine e_seq ?_
  refine e_seq ?_
  refine e_plain ?_
  refine e_move rfl rfl ?_
  refine e_nil ?_
  refine e_block ?_
  refine e_loop (fun kk E m => ∃ (k : Nat) (s : Nat → Nat), kk = 4 - k ∧ E = [(2, ptr r1), (3, ptr r2), (4, ptr r3), (6, ptr r4), (7, u (car a b k)), (9, ii k)] ∧ m = [(0, ⟨r1, arr .u64 4 (wd a), 36⟩), (1, ⟨r2, arr .u64 4 (wd b), 36⟩), (2, ⟨r3, arr .u64 4 (fun _ => 0), 36⟩), (3, ⟨r4, arr .u64 4 s, 36⟩)] ∧ (k ≤ 4) ∧ (∀ j, j < k → s j = wd (a + b) j)) [(2, ptr r1), (3, ptr r2), (4, ptr r3), (6, ptr r4), (7, u (car a b 0)), (9, ii 0)] [(0, ⟨r1, arr .u64 4 (wd a), 36⟩), (1, ⟨r2, arr .u64 4 (wd b), 36⟩), (2, ⟨r3, arr .u64 4 (fun _ => 0), 36⟩), (3, ⟨r4, arr .u64 4 (fun _ => 0), 36⟩)] (4 - 0) ⟨rfl, rfl, rfl, rfl, by rw [car_zero]; rfl, rfl, trivial⟩ ⟨rfl, rfl, rfl, rfl, trivial⟩ ⟨0, fun _ => 0, rfl, rfl, rfl, by omega, fun j hj => absurd hj (Nat.not_lt_zero j)⟩ ?_
  rintro kk E m ⟨k, s, rfl, rfl, rfl, hf0_0, hf0_1⟩
  have hcl := car_le a b k
  refine e_seq ?_
  refine e_plain ?_
  refine e_lt rfl rfl rfl ?_
  refine e_nil ?_
  refine e_seq ?_
  refine e_cond rfl ?_ ?_
  · intro hc0
    have hc0 := of_decide_eq_true hc0
    refine e_skip ?_
    refine e_seq ?_
    refine e_block ?_
    refine e_seq ?_
    refine e_plain ?_
    refine e_move rfl rfl ?_
    refine e_assign rfl rfl ?_
    refine e_nil ?_
    refine e_draw mixed (by kernel_rfl) ?_
    refine e_move rfl rfl ?_
    refine e_move rfl rfl ?_
    refine e_index0 und36 siz34 rfl rfl (by omega) rfl ?_
    refine e_load1 (i := 0) und34 rfl rfl rfl (arr_get (by omega)) rfl ⟨[], trivial⟩ ?_
    refine e_move rfl rfl ?_
    refine e_index0 und36 siz34 rfl rfl (by omega) rfl ?_
    refine e_load1 (i := 1) und34 rfl rfl rfl (arr_get (by omega)) rfl ⟨[], trivial⟩ ?_
    refine e_move rfl rfl ?_
    refine e_callE rfl (fun w => add64 _ _ _ (by omega) w) rfl rfl ?_
    refine e_move rfl rfl ?_
    refine e_extract rfl rfl rfl ?_
    refine e_extract rfl rfl rfl ?_
    refine e_index0 und36 siz34 rfl rfl (by omega) rfl ?_
    refine e_storeN (i := 3) siz34 rfl rfl rfl (by omega) (.inl rfl) ?_
    refine e_assign rfl rfl ?_
    refine e_nil ?_
    refine e_plain ?_
    refine e_add_i (q := 1) rfl rfl rfl (by omega) ?_
    refine e_move rfl rfl ?_
    refine e_nil ?_
    refine ⟨_, [(2, ptr r1), (3, ptr r2), (4, ptr r3), (6, ptr r4), (7, u (car a b (k + 1))), (9, ii (k + 1))], [(0, ⟨r1, arr .u64 4 (wd a), 36⟩), (1, ⟨r2, arr .u64 4 (wd b), 36⟩), (2, ⟨r3, arr .u64 4 (fun _ => 0), 36⟩), (3, ⟨r4, arr .u64 4 (upd s k _), 36⟩)], ?_, ⟨rfl, rfl, rfl, rfl, by rw [← car_next]; rfl, rfl, trivial⟩, ⟨rfl, rfl, rfl, rfl, trivial⟩, k + 1, upd s k _, rfl, rfl, rfl, by omega, upd_lt hf0_1 (car_word a b k)⟩
    omega
  · intro hc0
    have hc0 := of_decide_eq_false hc0
    refine e_exit ?_
    refine e_seq ?_
    refine e_plain ?_
    refine e_loadA (i := 3) und36 rfl siz36 rfl rfl (arr_size _ _ _) rfl ⟨[], trivial⟩ ?_
    refine e_move rfl rfl ?_
    refine e_storeA (i := 2) siz36 rfl rfl (arr_size _ _ _) arr_one rfl (arr_sz _ _ _ _ _) (.inl rfl) ?_
    refine e_assign rfl rfl ?_
    refine e_nil ?_
    refine e_ret ?_
    have hk4 : k = 4 := by omega
    subst hk4
    rw [← hfin, fe_of (fun j hj => (hf0_1 j hj).trans (wd_mod256 _ j hj).symm)]
    exact ⟨_, _, rfl, .cell (i := 2) rfl rfl und36 rfl siz36 (arr_size _ _ _), .tmp rfl⟩

set_option maxHeartbeats 400000 in
theorem minus_fn (a b : Nat) (ha : a < 2 ^ 256) (hb : b < 2 ^ 256) : Fn Try.prog G 23 #[fe a, fe b] (.tuple #[fe ((a + 2 ^ 256 - b) % 2 ^ 256), u (if a < b then 1 else 0)]) := by
  have hfin : bor a b 4 = if a < b then 1 else 0 := by
    unfold bor
    rw [Nat.mod_eq_of_lt (show a < 2 ^ (64 * 4) from ha), Nat.mod_eq_of_lt (show b < 2 ^ (64 * 4) from hb)]
  refine fn2 (n := 28) Try.func23 rfl rfl (by simp) (argE [fe a, fe b] 0) (argE_ok _) ?_
  refine e_seq ?_
  refine e_plain ?_
  refine e_box 0 rfl rfl fun r1 => ?_
  refine e_box 1 rfl rfl fun r2 => ?_
  refine e_alloc 2 zer36 rfl fun r3 => ?_
  refine e_assign rfl rfl ?_
  refine e_nil ?_
  refine e_seq ?_
  refine e_plain ?_
  refine e_alloc 3 zer36 rfl fun r4 => ?_
  refine e_nil ?_
  refine e_seq ?_
  refine e_plain ?_
  refine e_assign rfl rfl ?_
  refine e_nil ?_
  refine e_seq ?_
  refine e_seq ?_
  refine e_plain ?_
  refine e_move rfl rfl ?_
  refine e_nil ?_
  refine e_block ?_
  refine e_loop (fun kk E m => ∃ (k : Nat) (s : Nat → Nat), kk = 4 - k ∧ E = [(2, ptr r1), (3, ptr r2), (4, ptr r3), (6, ptr r4), (7, u (bor a b k)), (9, ii k)] ∧ m = [(0, ⟨r1, arr .u64 4 (wd a), 36⟩), (1, ⟨r2, arr .u64 4 (wd b), 36⟩), (2, ⟨r3, arr .u64 4 (fun _ => 0), 36⟩), (3, ⟨r4, arr .u64 4 s, 36⟩)] ∧ (k ≤ 4) ∧ (∀ j, j < k → s j = wd (a + 2 ^ 256 - b) j)) [(2, ptr r1), (3, ptr r2), (4, ptr r3), (6, ptr r4), (7, u (bor a b 0)), (9, ii 0)] [(0, ⟨r1, arr .u64 4 (wd a), 36⟩), (1, ⟨r2, arr .u64 4 (wd b), 36⟩), (2, ⟨r3, arr .u64 4 (fun _ => 0), 36⟩), (3, ⟨r4, arr .u64 4 (fun _ => 0), 36⟩)] (4 - 0) ⟨rfl, rfl, rfl, rfl, by rw [bor_zero]; rfl, rfl, trivial⟩ ⟨rfl, rfl, rfl, rfl, trivial⟩ ⟨0, fun _ => 0, rfl, rfl, rfl, by omega, fun j hj => absurd hj (Nat.not_lt_zero j)⟩ ?_
  rintro kk E m ⟨k, s, rfl, rfl, rfl, hf0_0, hf0_1⟩
  have hcl := bor_le a b k
  have hwl := wd_lt b k
  refine e_seq ?_
  refine e_plain ?_
  refine e_lt rfl rfl rfl ?_
  refine e_nil ?_
  refine e_seq ?_
  refine e_cond rfl ?_ ?_
  · intro hc0
    have hc0 := of_decide_eq_true hc0
    refine e_skip ?_
    refine e_seq ?_
    refine e_block ?_
    refine e_seq ?_
    refine e_plain ?_
    refine e_move rfl rfl ?_
    refine e_assign rfl rfl ?_
    refine e_nil ?_
    refine e_draw mixed (by kernel_rfl) ?_
    refine e_move rfl rfl ?_
    refine e_move rfl rfl ?_
    refine e_index0 und36 siz34 rfl rfl (by omega) rfl ?_
    refine e_load1 (i := 0) und34 rfl rfl rfl (arr_get (by omega)) rfl ⟨[], trivial⟩ ?_
    refine e_move rfl rfl ?_
    refine e_index0 und36 siz34 rfl rfl (by omega) rfl ?_
    refine e_load1 (i := 1) und34 rfl rfl rfl (arr_get (by omega)) rfl ⟨[], trivial⟩ ?_
    refine e_move rfl rfl ?_
    refine e_callE rfl (fun w => sub64 _ _ _ (by omega) (by omega) w) rfl rfl ?_
    refine e_move rfl rfl ?_
    refine e_extract rfl rfl rfl ?_
    refine e_extract rfl rfl rfl ?_
    refine e_index0 und36 siz34 rfl rfl (by omega) rfl ?_
    refine e_storeN (i := 3) siz34 rfl rfl rfl (by omega) (.inl rfl) ?_
    refine e_assign rfl rfl ?_
    refine e_nil ?_
    refine e_plain ?_
    refine e_add_i (q := 1) rfl rfl rfl (by omega) ?_
    refine e_move rfl rfl ?_
    refine e_nil ?_
    refine ⟨_, [(2, ptr r1), (3, ptr r2), (4, ptr r3), (6, ptr r4), (7, u (bor a b (k + 1))), (9, ii (k + 1))], [(0, ⟨r1, arr .u64 4 (wd a), 36⟩), (1, ⟨r2, arr .u64 4 (wd b), 36⟩), (2, ⟨r3, arr .u64 4 (fun _ => 0), 36⟩), (3, ⟨r4, arr .u64 4 (upd s k _), 36⟩)], ?_, ⟨rfl, rfl, rfl, rfl, by rw [← bor_next]; rfl, rfl, trivial⟩, ⟨rfl, rfl, rfl, rfl, trivial⟩, k + 1, upd s k _, rfl, rfl, rfl, by omega, upd_lt hf0_1 (bor_word a b k (by omega) (by omega))⟩
    omega
  · intro hc0
    have hc0 := of_decide_eq_false hc0
    refine e_exit ?_
    refine e_seq ?_
    refine e_plain ?_
    refine e_loadA (i := 3) und36 rfl siz36 rfl rfl (arr_size _ _ _) rfl ⟨[], trivial⟩ ?_
    refine e_move rfl rfl ?_
    refine e_storeA (i := 2) siz36 rfl rfl (arr_size _ _ _) arr_one rfl (arr_sz _ _ _ _ _) (.inl rfl) ?_
    refine e_assign rfl rfl ?_
    refine e_nil ?_
    refine e_ret ?_
    have hk4 : k = 4 := by omega
    subst hk4
    rw [← hfin, fe_of (fun j hj => (hf0_1 j hj).trans (wd_mod256 _ j hj).symm)]
    exact ⟨_, _, rfl, .cell (i := 2) rfl rfl und36 rfl siz36 (arr_size _ _ _), .tmp rfl⟩

set_option maxHeartbeats 400000 in
theorem prime_fn : Fn Try.prog G 24 #[] (fe PP) := by
  refine fn1 (n := 2) Try.func24 rfl rfl (by simp) (argE [] 0) (argE_ok _) ?_
  refine e_seq ?_
  refine e_plain ?_
  refine e_alloc 0 zer36 rfl fun r1 => ?_
  refine e_nil ?_
  refine e_seq ?_
  refine e_plain ?_
  refine e_build (arr .u64 4 (wd PP)) zer36 und36 siz34 rfl (by kernel_rfl) rfl ?_
  refine e_storeA (i := 0) siz36 rfl rfl (arr_size _ _ _) arr_one rfl (arr_sz _ _ _ _ _) (.inl rfl) ?_
  refine e_nil ?_
  refine e_ret ?_
  exact ⟨_, rfl, .cell (i := 0) rfl rfl und36 rfl siz36 (arr_size _ _ _)⟩

set_option maxHeartbeats 400000 in
theorem times_fn (a n : Nat) (hn : n ≤ 1) : Fn Try.prog G 25 #[fe a, u n] (fe (a * n)) := by
  refine fn1 (n := 18) Try.func25 rfl rfl (by simp) (argE [fe a, u n] 0) (argE_ok _) ?_
  refine e_seq ?_
  refine e_plain ?_
  refine e_box 0 rfl rfl fun r1 => ?_
  refine e_alloc 1 zer36 rfl fun r2 => ?_
  refine e_nil ?_
  refine e_seq ?_
  refine e_seq ?_
  refine e_plain ?_
  refine e_move rfl rfl ?_
  refine e_nil ?_
  refine e_block ?_
  refine e_loop (fun kk E m => ∃ (k : Nat) (s : Nat → Nat), kk = 4 - k ∧ E = [(2, ptr r1), (1, u n), (4, ptr r2), (6, ii k)] ∧ m = [(0, ⟨r1, arr .u64 4 s, 36⟩), (1, ⟨r2, arr .u64 4 (fun _ => 0), 36⟩)] ∧ (k ≤ 4) ∧ (∀ j, j < k → s j = wd (a * n) j) ∧ (∀ j, k ≤ j → s j = wd a j)) [(2, ptr r1), (1, u n), (4, ptr r2), (6, ii 0)] [(0, ⟨r1, arr .u64 4 (wd a), 36⟩), (1, ⟨r2, arr .u64 4 (fun _ => 0), 36⟩)] (4 - 0) ⟨rfl, rfl, rfl, rfl, trivial⟩ ⟨rfl, rfl, trivial⟩ ⟨0, wd a, rfl, rfl, rfl, by omega, fun j hj => absurd hj (Nat.not_lt_zero j), fun j _ => rfl⟩ ?_
  rintro kk E m ⟨k, s, rfl, rfl, rfl, hf0_0, hf0_1, hf0_2⟩
  refine e_seq ?_
  refine e_plain ?_
  refine e_lt rfl rfl rfl ?_
  refine e_nil ?_
  refine e_seq ?_
  refine e_cond rfl ?_ ?_
  · intro hc0
    have hc0 := of_decide_eq_true hc0
    refine e_skip ?_
    refine e_seq ?_
    refine e_block ?_
    refine e_seq ?_
    refine e_plain ?_
    refine e_move rfl rfl ?_
    refine e_assign rfl rfl ?_
    refine e_nil ?_
    refine e_plain ?_
    refine e_move rfl rfl ?_
    refine e_index0 und36 siz34 rfl rfl (by omega) rfl ?_
    refine e_load1 (i := 0) und34 rfl rfl rfl (arr_get (by omega)) rfl ⟨[], trivial⟩ ?_
    refine e_move rfl rfl ?_
    refine e_neg_u rfl rfl (by omega) ?_
    refine e_and_u rfl rfl rfl  ?_
    refine e_index0 und36 siz34 rfl rfl (by omega) rfl ?_
    refine e_storeN (i := 0) siz34 rfl rfl rfl (by omega) (.inl rfl) ?_
    refine e_nil ?_
    refine e_plain ?_
    refine e_add_i (q := 1) rfl rfl rfl (by omega) ?_
    refine e_move rfl rfl ?_
    refine e_nil ?_
    refine ⟨_, [(2, ptr r1), (1, u n), (4, ptr r2), (6, ii (k + 1))], [(0, ⟨r1, arr .u64 4 (upd s k _), 36⟩), (1, ⟨r2, arr .u64 4 (fun _ => 0), 36⟩)], ?_, ⟨rfl, rfl, rfl, rfl, trivial⟩, ⟨rfl, rfl, trivial⟩, k + 1, upd s k _, rfl, rfl, rfl, by omega, upd_lt hf0_1 (by rw [hf0_2 k (Nat.le_refl k)]; exact wd_mul01 a n k hn), upd_ge hf0_2⟩
    omega
  · intro hc0
    have hc0 := of_decide_eq_false hc0
    refine e_exit ?_
    refine e_seq ?_
    refine e_plain ?_
    refine e_loadA (i := 0) und36 rfl siz36 rfl rfl (arr_size _ _ _) rfl ⟨[], trivial⟩ ?_
    refine e_storeA (i := 1) siz36 rfl rfl (arr_size _ _ _) arr_one rfl (arr_sz _ _ _ _ _) (.inl rfl) ?_
    refine e_nil ?_
    refine e_ret ?_
    have hk4 : k = 4 := by omega
    subst hk4
    rw [fe_of hf0_1]
    exact ⟨_, rfl, .cell (i := 1) rfl rfl und36 rfl siz36 (arr_size _ _ _)⟩

set_option maxHeartbeats 400000 in
theorem below_fn (a : Nat) (ha : a < 2 ^ 256) : Fn Try.prog G 29 #[fe a] (.bool (decide (a < PP))) := by
  have hPP := PP_eq
  refine fn1 (n := 13) Try.func29 rfl rfl (by simp) (argE [fe a] 0) (argE_ok _) ?_
  refine e_seq ?_
  refine e_plain ?_
  refine e_box 0 rfl rfl fun r1 => ?_
  refine e_assign rfl rfl ?_
  refine e_nil ?_
  refine e_seq ?_
  refine e_draw mixed (by kernel_rfl) ?_
  refine e_loadA (i := 0) und36 rfl siz36 rfl rfl (arr_size _ _ _) rfl ⟨[], trivial⟩ ?_
  refine e_call rfl ent24 prime_fn rfl rfl ?_
  refine e_call rfl ent23 (minus_fn _ _ (by omega) (by omega)) rfl rfl ?_
  refine e_move rfl rfl ?_
  refine e_extract rfl rfl rfl ?_
  refine e_extract rfl rfl rfl ?_
  refine e_alloc 1 zer36 rfl fun r2 => ?_
  refine e_storeA (i := 1) siz36 rfl rfl (arr_size _ _ _) arr_one rfl (arr_sz _ _ _ _ _) (.inl rfl) ?_
  refine e_assign rfl rfl ?_
  refine e_nil ?_
  refine e_seq ?_
  refine e_plain ?_
  refine e_move rfl rfl ?_
  refine e_eq rfl rfl rfl ?_
  refine e_as (lt_bool _ _) ?_
  refine e_assign rfl rfl ?_
  refine e_nil ?_
  refine e_ret ?_
  exact ⟨_, rfl, .tmp rfl⟩

set_option maxHeartbeats 400000 in
theorem fold_fn (a ov : Nat) (ha : a < 2 ^ 256) (ho : ov < 2 ^ 50) : Fn Try.prog G 15 #[fe a, u ov] (fe ((a + ov * 2 ^ 256) % PP)) := by
  have hPP := PP_eq
  have h255 : a / 2 ^ 255 ≤ 1 := by omega
  have h256 := Nat.mod_lt a (show 0 < 2 ^ 255 from Nat.pow_pos (by decide))
  obtain ⟨Y, hY⟩ : ∃ Y, Y = a % 2 ^ 255 + (2 * ov + a / 2 ^ 255) * 19 := ⟨_, rfl⟩
  have hY2 : Y < 2 ^ 256 := by omega
  obtain ⟨t, ht⟩ : ∃ t, t = (if Y < PP then 1 else 0) := ⟨_, rfl⟩
  have hb1 : t ≤ 1 := by rw [ht]; split <;> omega
  have hb2 : PP * t < 2 ^ 256 := by rw [hPP]; omega
  have hY3 : (a % 2 ^ 255 + (2 * ov + a / 2 ^ 255) * 19) % 2 ^ 256 = Y := by rw [← hY]; exact Nat.mod_eq_of_lt hY2
  have hm1 := Nat.mod_lt (Y + 2 ^ 256 - PP) (show 0 < 2 ^ 256 from Nat.pow_pos (by decide))
  refine fn1 (n := 40) Try.func15 rfl rfl (by simp) (argE [fe a, u ov] 0) (argE_ok _) ?_
  refine e_seq ?_
  refine e_plain ?_
  refine e_box 0 rfl rfl fun r1 => ?_
  refine e_alloc 1 zer36 rfl fun r2 => ?_
  refine e_nil ?_
  refine e_seq ?_
  refine e_plain ?_
  refine e_move rfl rfl ?_
  refine e_shl_u (s := 1) rfl rfl rfl (by omega) ?_
  refine e_index0 (j := 3) und36 siz34 rfl rfl (by omega) rfl ?_
  refine e_load1 (i := 0) und34 rfl rfl rfl (arr_get (by omega)) rfl ⟨[], trivial⟩ ?_
  refine e_shr_u (s := 63) rfl rfl rfl (by omega) ?_
  refine e_or_u rfl rfl rfl  ?_
  refine e_as (congrArg u (fold_or a ov ha ho)) ?_
  refine e_assign rfl rfl ?_
  refine e_nil ?_
  refine e_seq ?_
  refine e_plain ?_
  refine e_index0 (j := 3) und36 siz34 rfl rfl (by omega) rfl ?_
  refine e_load1 (i := 0) und34 rfl rfl rfl (arr_get (by omega)) rfl ⟨[], trivial⟩ ?_
  refine e_and_u (q := 9223372036854775807) rfl rfl rfl  ?_
  refine e_index0 (j := 3) und36 siz34 rfl rfl (by omega) rfl ?_
  refine e_storeN (i := 0) siz34 rfl rfl rfl (by omega) (.inl rfl) ?_
  refine e_nil ?_
  refine e_seq ?_
  refine e_plain ?_
  refine e_loadA (i := 0) und36 rfl siz36 rfl rfl (arr_size _ _ _) rfl ⟨[], trivial⟩ ?_
  refine e_as (fe_of (wd_low63 a ha)).symm ?_
  refine e_move rfl rfl ?_
  refine e_mul_u (q := 19) rfl rfl rfl  ?_
  refine e_as (congrArg u (Nat.mod_eq_of_lt (show (2 * ov + a / 2 ^ 255) * 19 < 18446744073709551616 by omega))) ?_
  refine e_build (arr .u64 4 (upd (fun _ => 0) 0 ((2 * ov + a / 2 ^ 255) * 19))) zer36 und36 siz34 rfl rfl rfl ?_
  refine e_as (fe_one ((2 * ov + a / 2 ^ 255) * 19) (by omega)) ?_
  refine e_call rfl ent22 (plus_fn _ _ (by omega) (by omega)) rfl rfl ?_
  refine e_move rfl rfl ?_
  refine e_extract rfl rfl rfl ?_
  refine e_as (congrArg fe hY3) ?_
  refine e_extract rfl rfl rfl ?_
  refine e_storeA (i := 0) siz36 rfl rfl (arr_size _ _ _) arr_one rfl (arr_sz _ _ _ _ _) (.inl rfl) ?_
  refine e_nil ?_
  refine e_seq ?_
  refine e_draw mixed (by kernel_rfl) ?_
  refine e_loadA (i := 0) und36 rfl siz36 rfl rfl (arr_size _ _ _) rfl ⟨[], trivial⟩ ?_
  refine e_call rfl ent24 prime_fn rfl rfl ?_
  refine e_call rfl ent23 (minus_fn _ _ (by omega) (by omega)) rfl rfl ?_
  refine e_move rfl rfl ?_
  refine e_extract rfl rfl rfl ?_
  refine e_extract rfl rfl rfl ?_
  refine e_as (congrArg u ht.symm) ?_
  refine e_alloc 2 zer36 rfl fun r3 => ?_
  refine e_storeA (i := 2) siz36 rfl rfl (arr_size _ _ _) arr_one rfl (arr_sz _ _ _ _ _) (.inl rfl) ?_
  refine e_assign rfl rfl ?_
  refine e_nil ?_
  refine e_seq ?_
  refine e_draw mixed (by kernel_rfl) ?_
  refine e_loadA (i := 2) und36 rfl siz36 rfl rfl (arr_size _ _ _) rfl ⟨[], trivial⟩ ?_
  refine e_call rfl ent24 prime_fn rfl rfl ?_
  refine e_move rfl rfl ?_
  refine e_call rfl ent25 (times_fn _ _ (by omega)) rfl rfl ?_
  refine e_call rfl ent22 (plus_fn _ _ (by omega) (by omega)) rfl rfl ?_
  refine e_move rfl rfl ?_
  refine e_extract rfl rfl rfl ?_
  refine e_extract rfl rfl rfl ?_
  refine e_storeA (i := 2) siz36 rfl rfl (arr_size _ _ _) arr_one rfl (arr_sz _ _ _ _ _) (.inl rfl) ?_
  refine e_nil ?_
  refine e_seq ?_
  refine e_plain ?_
  refine e_loadA (i := 2) und36 rfl siz36 rfl rfl (arr_size _ _ _) rfl ⟨[], trivial⟩ ?_
  refine e_storeA (i := 1) siz36 rfl rfl (arr_size _ _ _) arr_one rfl (arr_sz _ _ _ _ _) (.inl rfl) ?_
  refine e_nil ?_
  refine e_ret ?_
  rw [← fold_fin a ov Y ha ho hY, ← ht]
  exact ⟨_, rfl, .cell (i := 1) rfl rfl und36 rfl siz36 (arr_size _ _ _)⟩

set_option maxHeartbeats 400000 in
theorem from_fn (f : Nat → Nat) (hf : ∀ j, j < 32 → f j < 256) : Fn Try.prog G 11 #[.agg (arr .u8 32 f)] (fe (vb f 32 % 2 ^ 255 % PP)) := by
  have hPP := PP_eq
  refine fn1 (n := 29) Try.func11 rfl rfl (by simp) (argE [.agg (arr .u8 32 f)] 0) (argE_ok _) ?_
  refine e_seq ?_
  refine e_plain ?_
  refine e_box 0 rfl rfl fun r1 => ?_
  refine e_alloc 1 zer36 rfl fun r2 => ?_
  refine e_nil ?_
  refine e_seq ?_
  refine e_plain ?_
  refine e_alloc 2 zer36 rfl fun r3 => ?_
  refine e_nil ?_
  refine e_seq ?_
  refine e_seq ?_
  refine e_plain ?_
  refine e_move rfl rfl ?_
  refine e_nil ?_
  refine e_block ?_
  refine e_loop (fun kk E m => ∃ (k : Nat) (s : Nat → Nat), kk = 32 - k ∧ E = [(1, ptr r1), (2, ptr r2), (3, ptr r3), (5, ii k)] ∧ m = [(0, ⟨r1, arr .u8 32 f, 22⟩), (1, ⟨r2, arr .u64 4 (fun _ => 0), 36⟩), (2, ⟨r3, arr .u64 4 s, 36⟩)] ∧ (k ≤ 32) ∧ (∀ j, j < 4 → s j = wd (vb f k) j)) [(1, ptr r1), (2, ptr r2), (3, ptr r3), (5, ii 0)] [(0, ⟨r1, arr .u8 32 f, 22⟩), (1, ⟨r2, arr .u64 4 (fun _ => 0), 36⟩), (2, ⟨r3, arr .u64 4 (fun _ => 0), 36⟩)] (32 - 0) ⟨rfl, rfl, rfl, rfl, trivial⟩ ⟨rfl, rfl, rfl, trivial⟩ ⟨0, fun _ => 0, rfl, rfl, rfl, by omega, fun j _ => by simp [vb, wd]⟩ ?_
  rintro kk E m ⟨k, s, rfl, rfl, rfl, hf0_0, hf0_1⟩
  refine e_seq ?_
  refine e_plain ?_
  refine e_lt rfl rfl rfl ?_
  refine e_nil ?_
  refine e_seq ?_
  refine e_cond rfl ?_ ?_
  · intro hc0
    have hc0 := of_decide_eq_true hc0
    refine e_skip ?_
    refine e_seq ?_
    refine e_block ?_
    refine e_seq ?_
    refine e_plain ?_
    refine e_move rfl rfl ?_
    refine e_assign rfl rfl ?_
    refine e_nil ?_
    refine e_draw mixed (by kernel_rfl) ?_
    refine e_move rfl rfl ?_
    refine e_quo_i (q := 8) rfl rfl rfl (by omega) (by omega) ?_
    refine e_index0 und36 siz34 rfl rfl (by omega) rfl ?_
    refine e_load1 (i := 2) und34 rfl rfl rfl (arr_get (by omega)) rfl ⟨[], trivial⟩ ?_
    refine e_move rfl rfl ?_
    refine e_index0 und22 siz5 rfl rfl (by omega) rfl ?_
    refine e_load1 (i := 0) und5 rfl rfl rfl (arr_get (by omega)) rfl ⟨[], trivial⟩ ?_
    refine e_conv_u und5 und34 rfl rfl ?_
    refine e_move rfl rfl ?_
    refine e_rem_i (q := 8) rfl rfl rfl (by omega) ?_
    refine e_mul_i (q := 8) rfl rfl rfl (by omega) ?_
    refine e_shl_u rfl rfl rfl (by omega) ?_
    refine e_or_u rfl rfl rfl  ?_
    refine e_index0 und36 siz34 rfl rfl (by omega) rfl ?_
    refine e_storeN (i := 2) siz34 rfl rfl rfl (by omega) (.inl rfl) ?_
    refine e_nil ?_
    refine e_plain ?_
    refine e_add_i (q := 1) rfl rfl rfl (by omega) ?_
    refine e_move rfl rfl ?_
    refine e_nil ?_
    refine ⟨_, [(1, ptr r1), (2, ptr r2), (3, ptr r3), (5, ii (k + 1))], [(0, ⟨r1, arr .u8 32 f, 22⟩), (1, ⟨r2, arr .u64 4 (fun _ => 0), 36⟩), (2, ⟨r3, arr .u64 4 (upd s (k / 8) _), 36⟩)], ?_, ⟨rfl, rfl, rfl, rfl, trivial⟩, ⟨rfl, rfl, rfl, trivial⟩, k + 1, upd s (k / 8) _, rfl, rfl, rfl, by omega, from_step f k s (by omega) hf hf0_1⟩
    omega
  · intro hc0
    have hc0 := of_decide_eq_false hc0
    have hk32 : k = 32 := by omega
    subst hk32
    have hA := from_top f s hf hf0_1
    refine e_exit ?_
    refine e_seq ?_
    refine e_plain ?_
    refine e_index0 (j := 3) und36 siz34 rfl rfl (by omega) rfl ?_
    refine e_load1 (i := 2) und34 rfl rfl rfl (arr_get (by omega)) rfl ⟨[], trivial⟩ ?_
    refine e_and_u (q := 9223372036854775807) rfl rfl rfl  ?_
    refine e_index0 (j := 3) und36 siz34 rfl rfl (by omega) rfl ?_
    refine e_storeN (i := 2) siz34 rfl rfl rfl (by omega) (.inl rfl) ?_
    refine e_nil ?_
    refine e_seq ?_
    refine e_plain ?_
    refine e_loadA (i := 2) und36 rfl siz36 rfl rfl (arr_size _ _ _) rfl ⟨[], trivial⟩ ?_
    refine e_as hA ?_
    refine e_call rfl ent15 (fold_fn (vb f 32 % 2 ^ 255) 0 (by omega) (by omega)) rfl rfl ?_
    refine e_storeA (i := 1) siz36 rfl rfl (arr_size _ _ _) arr_one rfl (arr_sz _ _ _ _ _) (.inl rfl) ?_
    refine e_nil ?_
    refine e_ret ?_
    rw [show vb f 32 % 2 ^ 255 % PP = (vb f 32 % 2 ^ 255 + 0 * 2 ^ 256) % PP by rw [Nat.zero_mul, Nat.add_zero]]
    exact ⟨_, rfl, .cell (i := 1) rfl rfl und36 rfl siz36 (arr_size _ _ _)⟩

set_option maxHeartbeats 400000 in
theorem bytes_ok (a : Nat) (ha : a < PP) : Fn Try.prog G 20 #[fe a] (.tuple #[by32 a, ii 0]) := by
  have hPP := PP_eq
  refine fn2 (n := 26) Try.func20 rfl rfl (by simp) (argE [fe a] 0) (argE_ok _) ?_
  refine e_seq ?_
  refine e_plain ?_
  refine e_box 0 rfl rfl fun r1 => ?_
  refine e_alloc 1 zer22 rfl fun r2 => ?_
  refine e_assign rfl rfl ?_
  refine e_nil ?_
  refine e_seq ?_
  refine e_seq ?_
  refine e_plain ?_
  refine e_loadA (i := 0) und36 rfl siz36 rfl rfl (arr_size _ _ _) rfl ⟨[], trivial⟩ ?_
  refine e_call rfl ent29 (below_fn _ (by omega)) rfl rfl ?_
  refine e_not rfl rfl ?_
  refine e_nil ?_
  refine e_cond rfl ?_ ?_
  · intro hc0
    simp [ha] at hc0
  · intro hc0
    refine e_skip ?_
    refine e_seq ?_
    refine e_plain ?_
    refine e_alloc 2 zer22 rfl fun r3 => ?_
    refine e_nil ?_
    refine e_seq ?_
    refine e_seq ?_
    refine e_plain ?_
    refine e_move rfl rfl ?_
    refine e_nil ?_
    refine e_block ?_
    refine e_loop (fun kk E m => ∃ (k : Nat) (s : Nat → Nat), kk = 32 - k ∧ E = [(1, ptr r1), (2, ptr r2), (4, ptr r3), (10, ii k)] ∧ m = [(0, ⟨r1, arr .u64 4 (wd a), 36⟩), (1, ⟨r2, arr .u8 32 (fun _ => 0), 22⟩), (2, ⟨r3, arr .u8 32 s, 22⟩)] ∧ (k ≤ 32) ∧ (∀ j, j < k → s j = bt a j)) [(1, ptr r1), (2, ptr r2), (4, ptr r3), (10, ii 0)] [(0, ⟨r1, arr .u64 4 (wd a), 36⟩), (1, ⟨r2, arr .u8 32 (fun _ => 0), 22⟩), (2, ⟨r3, arr .u8 32 (fun _ => 0), 22⟩)] (32 - 0) ⟨rfl, rfl, rfl, rfl, trivial⟩ ⟨rfl, rfl, rfl, trivial⟩ ⟨0, fun _ => 0, rfl, rfl, rfl, by omega, fun j hj => absurd hj (Nat.not_lt_zero j)⟩ ?_
    rintro kk E m ⟨k, s, rfl, rfl, rfl, hf0_0, hf0_1⟩
    refine e_seq ?_
    refine e_plain ?_
    refine e_lt rfl rfl rfl ?_
    refine e_nil ?_
    refine e_seq ?_
    refine e_cond rfl ?_ ?_
    · intro hc1
      have hc1 := of_decide_eq_true hc1
      refine e_skip ?_
      refine e_seq ?_
      refine e_block ?_
      refine e_seq ?_
      refine e_plain ?_
      refine e_move rfl rfl ?_
      refine e_assign rfl rfl ?_
      refine e_nil ?_
      refine e_plain ?_
      refine e_move rfl rfl ?_
      refine e_move rfl rfl ?_
      refine e_quo_i (q := 8) rfl rfl rfl (by omega) (by omega) ?_
      refine e_index0 und36 siz34 rfl rfl (by omega) rfl ?_
      refine e_load1 (i := 0) und34 rfl rfl rfl (arr_get (by omega)) rfl ⟨[], trivial⟩ ?_
      refine e_move rfl rfl ?_
      refine e_rem_i (q := 8) rfl rfl rfl (by omega) ?_
      refine e_mul_i (q := 8) rfl rfl rfl (by omega) ?_
      refine e_shr_u rfl rfl rfl (by omega) ?_
      refine e_conv_u8 und34 und5 rfl rfl ?_
      refine e_index0 und22 siz5 rfl rfl (by omega) rfl ?_
      refine e_storeN (i := 2) siz5 rfl rfl rfl (by omega) (.inl rfl) ?_
      refine e_nil ?_
      refine e_plain ?_
      refine e_add_i (q := 1) rfl rfl rfl (by omega) ?_
      refine e_move rfl rfl ?_
      refine e_nil ?_
      refine ⟨_, [(1, ptr r1), (2, ptr r2), (4, ptr r3), (10, ii (k + 1))], [(0, ⟨r1, arr .u64 4 (wd a), 36⟩), (1, ⟨r2, arr .u8 32 (fun _ => 0), 22⟩), (2, ⟨r3, arr .u8 32 (upd s k _), 22⟩)], ?_, ⟨rfl, rfl, rfl, rfl, trivial⟩, ⟨rfl, rfl, rfl, trivial⟩, k + 1, upd s k _, rfl, rfl, rfl, by omega, upd_lt hf0_1 (bt_word a k)⟩
      omega
    · intro hc1
      have hc1 := of_decide_eq_false hc1
      refine e_exit ?_
      refine e_seq ?_
      refine e_plain ?_
      refine e_loadA (i := 2) und22 rfl siz22 rfl rfl (arr_size _ _ _) rfl ⟨[], trivial⟩ ?_
      refine e_storeA (i := 1) siz22 rfl rfl (arr_size _ _ _) arr_one rfl (arr_sz _ _ _ _ _) (.inl rfl) ?_
      refine e_assign rfl rfl ?_
      refine e_nil ?_
      refine e_ret ?_
      have hk32 : k = 32 := by omega
      subst hk32
      rw [← by_congr hf0_1]
      exact ⟨_, _, rfl, .cell (i := 1) rfl rfl und22 rfl siz22 (arr_size _ _ _), .tmp rfl⟩

end Go.Proofs.Ythhcgeoldjmpaaa
