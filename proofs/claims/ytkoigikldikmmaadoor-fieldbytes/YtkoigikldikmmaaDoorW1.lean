/-
  Walks, written by a program of ours off the loaded functions.
-/
import Derived.Test.YtkoigikldikmmaaDoorBits
import Derived.Test.YtkoigikldikmmaaDoorNum2
namespace Go.Proofs.YtkoigikldikmmaaDoor
open Go Go.RowKit


theorem mixed : Tryd.prog.follows .mixedOrders = true := by kernel_rfl
theorem ent17 : enters Tryd.prog 17 = true := by kernel_rfl
theorem ent18 : enters Tryd.prog 18 = true := by kernel_rfl
theorem ent19 : enters Tryd.prog 19 = true := by kernel_rfl
theorem ent20 : enters Tryd.prog 20 = true := by kernel_rfl
theorem ent21 : enters Tryd.prog 21 = true := by kernel_rfl
theorem ent22 : enters Tryd.prog 22 = true := by kernel_rfl
theorem sis5 : ((Tryd.prog.info? 5).map (·.size)).isSome = true := by kernel_rfl
theorem siz5 : (Tryd.prog.info? 5).map (·.size) = some 1 := by kernel_rfl
theorem siz22 : (Tryd.prog.info? 22).map (·.size) = some 1 := by kernel_rfl
theorem siz24 : (Tryd.prog.info? 24).map (·.size) = some 4 := by kernel_rfl
theorem siz32 : (Tryd.prog.info? 32).map (·.size) = some 32 := by kernel_rfl
theorem und5 : Tryd.prog.underlying 5 = some (.int .u8) := by kernel_rfl
theorem und22 : Tryd.prog.underlying 22 = some (.int .u64) := by kernel_rfl
theorem und24 : Tryd.prog.underlying 24 = some (.array 4 22) := by kernel_rfl
theorem und32 : Tryd.prog.underlying 32 = some (.array 32 5) := by kernel_rfl
theorem zer24 : (Tryd.prog.info? 24).bind (·.zero) = some (.agg (arr .u64 4 fun _ => 0)) := by kernel_rfl
theorem zer32 : (Tryd.prog.info? 32).bind (·.zero) = some (.agg (arr .u8 32 fun _ => 0)) := by kernel_rfl

variable {G : Mem}

set_option maxHeartbeats 400000 in
theorem plus_fn (a b : Nat) (ha : a < 2 ^ 256) (hb : b < 2 ^ 256) : Fn Tryd.prog G 18 #[fe a, fe b] (.tuple #[fe ((a + b) % 2 ^ 256), u ((a + b) / 2 ^ 256)]) := by
  have hfin : car a b 4 = (a + b) / 2 ^ 256 := by
    unfold car
    rw [Nat.mod_eq_of_lt (show a < 2 ^ (64 * 4) from ha), Nat.mod_eq_of_lt (show b < 2 ^ (64 * 4) from hb)]
  refine fn2 (n := 28) Tryd.func18 rfl rfl (by simp) (argE [fe a, fe b] 0) (argE_ok _) ?_
  refine e_seq ?_
  refine e_plain ?_
  refine e_box 0 rfl rfl fun r1 => ?_
  refine e_box 1 rfl rfl fun r2 => ?_
  refine e_alloc 2 zer24 rfl fun r3 => ?_
  refine e_assign rfl rfl ?_
  refine e_nil ?_
  refine e_seq ?_
  refine e_plain ?_
  refine e_alloc 3 zer24 rfl fun r4 => ?_
  refine e_nil ?_
  refine e_seq ?_
  refine e_plain ?_
  refine e_assign rfl rfl ?_
  refine e_nil ?_
  refine e_seq ?_
  refine e_seq ?_
  refine e_plain ?_
  refine e_move rfl rfl ?_
  refine e_nil ?_
  refine e_block ?_
  refine e_loop (fun kk E m => ∃ (k : Nat) (s : Nat → Nat), kk = 4 - k ∧ E = [(2, ptr r1), (3, ptr r2), (4, ptr r3), (6, ptr r4), (7, u (car a b k)), (9, ii k)] ∧ m = [(0, ⟨r1, arr .u64 4 (wd a), 24⟩), (1, ⟨r2, arr .u64 4 (wd b), 24⟩), (2, ⟨r3, arr .u64 4 (fun _ => 0), 24⟩), (3, ⟨r4, arr .u64 4 s, 24⟩)] ∧ (k ≤ 4) ∧ (∀ j, j < k → s j = wd (a + b) j)) [(2, ptr r1), (3, ptr r2), (4, ptr r3), (6, ptr r4), (7, u (car a b 0)), (9, ii 0)] [(0, ⟨r1, arr .u64 4 (wd a), 24⟩), (1, ⟨r2, arr .u64 4 (wd b), 24⟩), (2, ⟨r3, arr .u64 4 (fun _ => 0), 24⟩), (3, ⟨r4, arr .u64 4 (fun _ => 0), 24⟩)] (4 - 0) ⟨rfl, rfl, rfl, rfl, by rw [car_zero]; rfl, rfl, trivial⟩ ⟨rfl, rfl, rfl, rfl, trivial⟩ ⟨0, fun _ => 0, rfl, rfl, rfl, by omega, fun j hj => absurd hj (Nat.not_lt_zero j)⟩ ?_
  rintro kk E m ⟨k, s, rfl, rfl, rfl, hf0_0, hf0_1⟩
  have hcl := car_le a b k
  refine e_seq ?_
  refine e_plain ?_
  refine e_lt rfl rfl rfl ?_
  refine e_nil ?_
  refine e_seq ?_
  refine e_cond rfl ?_ ?_
  · intro hc0
    have hc0 := of_decide_eq_true hc0
    refine e_skip ?_
    refine e_seq ?_
    refine e_block ?_
    refine e_seq ?_
    refine e_plain ?_
    refine e_move rfl rfl ?_
    refine e_assign rfl rfl ?_
    refine e_nil ?_
    refine e_draw mixed (by kernel_rfl) ?_
    refine e_move rfl rfl ?_
    refine e_move rfl rfl ?_
    refine e_index0 und24 siz22 rfl rfl (by omega) rfl ?_
    refine e_load1 (i := 0) und22 rfl rfl rfl (arr_get (by omega)) rfl ?_
    refine e_move rfl rfl ?_
    refine e_index0 und24 siz22 rfl rfl (by omega) rfl ?_
    refine e_load1 (i := 1) und22 rfl rfl rfl (arr_get (by omega)) rfl ?_
    refine e_move rfl rfl ?_
    refine e_callE rfl (fun w => add64 _ _ _ (by omega) w) rfl ?_
    refine e_move rfl rfl ?_
    refine e_extract rfl rfl rfl ?_
    refine e_extract rfl rfl rfl ?_
    refine e_index0 und24 siz22 rfl rfl (by omega) rfl ?_
    refine e_storeN (i := 3) siz22 rfl rfl rfl (by omega) ?_
    refine e_assign rfl rfl ?_
    refine e_nil ?_
    refine e_plain ?_
    refine e_add_i (q := 1) rfl rfl rfl (by omega) ?_
    refine e_move rfl rfl ?_
    refine e_nil ?_
    refine ⟨_, [(2, ptr r1), (3, ptr r2), (4, ptr r3), (6, ptr r4), (7, u (car a b (k + 1))), (9, ii (k + 1))], [(0, ⟨r1, arr .u64 4 (wd a), 24⟩), (1, ⟨r2, arr .u64 4 (wd b), 24⟩), (2, ⟨r3, arr .u64 4 (fun _ => 0), 24⟩), (3, ⟨r4, arr .u64 4 (upd s k _), 24⟩)], ?_, ⟨rfl, rfl, rfl, rfl, by rw [← car_next]; rfl, rfl, trivial⟩, ⟨rfl, rfl, rfl, rfl, trivial⟩, k + 1, upd s k _, rfl, rfl, rfl, by omega, upd_lt hf0_1 (car_word a b k)⟩
    omega
  · intro hc0
    have hc0 := of_decide_eq_false hc0
    refine e_exit ?_
    refine e_seq ?_
    refine e_plain ?_
    refine e_loadA (i := 3) und24 rfl siz24 rfl rfl (arr_size _ _ _) rfl ?_
    refine e_move rfl rfl ?_
    refine e_storeA (i := 2) siz24 rfl rfl (arr_size _ _ _) arr_one rfl (arr_sz _ _ _ _ _) ?_
    refine e_assign rfl rfl ?_
    refine e_nil ?_
    refine e_ret ?_
    have hk4 : k = 4 := by omega
    subst hk4
    rw [← hfin, fe_of (fun j hj => (hf0_1 j hj).trans (wd_mod256 _ j hj).symm)]
    exact ⟨_, _, rfl, .cell (i := 2) rfl rfl und24 rfl siz24 (arr_size _ _ _), .tmp rfl⟩

set_option maxHeartbeats 400000 in
theorem minus_fn (a b : Nat) (ha : a < 2 ^ 256) (hb : b < 2 ^ 256) : Fn Tryd.prog G 20 #[fe a, fe b] (.tuple #[fe ((a + 2 ^ 256 - b) % 2 ^ 256), u (if a < b then 1 else 0)]) := by
  have hfin : bor a b 4 = if a < b then 1 else 0 := by
    unfold bor
    rw [Nat.mod_eq_of_lt (show a < 2 ^ (64 * 4) from ha), Nat.mod_eq_of_lt (show b < 2 ^ (64 * 4) from hb)]
  refine fn2 (n := 28) Tryd.func20 rfl rfl (by simp) (argE [fe a, fe b] 0) (argE_ok _) ?_
  refine e_seq ?_
  refine e_plain ?_
  refine e_box 0 rfl rfl fun r1 => ?_
  refine e_box 1 rfl rfl fun r2 => ?_
  refine e_alloc 2 zer24 rfl fun r3 => ?_
  refine e_assign rfl rfl ?_
  refine e_nil ?_
  refine e_seq ?_
  refine e_plain ?_
  refine e_alloc 3 zer24 rfl fun r4 => ?_
  refine e_nil ?_
  refine e_seq ?_
  refine e_plain ?_
  refine e_assign rfl rfl ?_
  refine e_nil ?_
  refine e_seq ?_
  refine e_seq ?_
  refine e_plain ?_
  refine e_move rfl rfl ?_
  refine e_nil ?_
  refine e_block ?_
  refine e_loop (fun kk E m => ∃ (k : Nat) (s : Nat → Nat), kk = 4 - k ∧ E = [(2, ptr r1), (3, ptr r2), (4, ptr r3), (6, ptr r4), (7, u (bor a b k)), (9, ii k)] ∧ m = [(0, ⟨r1, arr .u64 4 (wd a), 24⟩), (1, ⟨r2, arr .u64 4 (wd b), 24⟩), (2, ⟨r3, arr .u64 4 (fun _ => 0), 24⟩), (3, ⟨r4, arr .u64 4 s, 24⟩)] ∧ (k ≤ 4) ∧ (∀ j, j < k → s j = wd (a + 2 ^ 256 - b) j)) [(2, ptr r1), (3, ptr r2), (4, ptr r3), (6, ptr r4), (7, u (bor a b 0)), (9, ii 0)] [(0, ⟨r1, arr .u64 4 (wd a), 24⟩), (1, ⟨r2, arr .u64 4 (wd b), 24⟩), (2, ⟨r3, arr .u64 4 (fun _ => 0), 24⟩), (3, ⟨r4, arr .u64 4 (fun _ => 0), 24⟩)] (4 - 0) ⟨rfl, rfl, rfl, rfl, by rw [bor_zero]; rfl, rfl, trivial⟩ ⟨rfl, rfl, rfl, rfl, trivial⟩ ⟨0, fun _ => 0, rfl, rfl, rfl, by omega, fun j hj => absurd hj (Nat.not_lt_zero j)⟩ ?_
  rintro kk E m ⟨k, s, rfl, rfl, rfl, hf0_0, hf0_1⟩
  have hcl := bor_le a b k
  have hwl := wd_lt b k
  refine e_seq ?_
  refine e_plain ?_
  refine e_lt rfl rfl rfl ?_
  refine e_nil ?_
  refine e_seq ?_
  refine e_cond rfl ?_ ?_
  · intro hc0
    have hc0 := of_decide_eq_true hc0
    refine e_skip ?_
    refine e_seq ?_
    refine e_block ?_
    refine e_seq ?_
    refine e_plain ?_
    refine e_move rfl rfl ?_
    refine e_assign rfl rfl ?_
    refine e_nil ?_
    refine e_draw mixed (by kernel_rfl) ?_
    refine e_move rfl rfl ?_
    refine e_move rfl rfl ?_
    refine e_index0 und24 siz22 rfl rfl (by omega) rfl ?_
    refine e_load1 (i := 0) und22 rfl rfl rfl (arr_get (by omega)) rfl ?_
    refine e_move rfl rfl ?_
    refine e_index0 und24 siz22 rfl rfl (by omega) rfl ?_
    refine e_load1 (i := 1) und22 rfl rfl rfl (arr_get (by omega)) rfl ?_
    refine e_move rfl rfl ?_
    refine e_callE rfl (fun w => sub64 _ _ _ (by omega) (by omega) w) rfl ?_
    refine e_move rfl rfl ?_
    refine e_extract rfl rfl rfl ?_
    refine e_extract rfl rfl rfl ?_
    refine e_index0 und24 siz22 rfl rfl (by omega) rfl ?_
    refine e_storeN (i := 3) siz22 rfl rfl rfl (by omega) ?_
    refine e_assign rfl rfl ?_
    refine e_nil ?_
    refine e_plain ?_
    refine e_add_i (q := 1) rfl rfl rfl (by omega) ?_
    refine e_move rfl rfl ?_
    refine e_nil ?_
    refine ⟨_, [(2, ptr r1), (3, ptr r2), (4, ptr r3), (6, ptr r4), (7, u (bor a b (k + 1))), (9, ii (k + 1))], [(0, ⟨r1, arr .u64 4 (wd a), 24⟩), (1, ⟨r2, arr .u64 4 (wd b), 24⟩), (2, ⟨r3, arr .u64 4 (fun _ => 0), 24⟩), (3, ⟨r4, arr .u64 4 (upd s k _), 24⟩)], ?_, ⟨rfl, rfl, rfl, rfl, by rw [← bor_next]; rfl, rfl, trivial⟩, ⟨rfl, rfl, rfl, rfl, trivial⟩, k + 1, upd s k _, rfl, rfl, rfl, by omega, upd_lt hf0_1 (bor_word a b k (by omega) (by omega))⟩
    omega
  · intro hc0
    have hc0 := of_decide_eq_false hc0
    refine e_exit ?_
    refine e_seq ?_
    refine e_plain ?_
    refine e_loadA (i := 3) und24 rfl siz24 rfl rfl (arr_size _ _ _) rfl ?_
    refine e_move rfl rfl ?_
    refine e_storeA (i := 2) siz24 rfl rfl (arr_size _ _ _) arr_one rfl (arr_sz _ _ _ _ _) ?_
    refine e_assign rfl rfl ?_
    refine e_nil ?_
    refine e_ret ?_
    have hk4 : k = 4 := by omega
    subst hk4
    rw [← hfin, fe_of (fun j hj => (hf0_1 j hj).trans (wd_mod256 _ j hj).symm)]
    exact ⟨_, _, rfl, .cell (i := 2) rfl rfl und24 rfl siz24 (arr_size _ _ _), .tmp rfl⟩

set_option maxHeartbeats 400000 in
theorem prime_fn : Fn Tryd.prog G 22 #[] (fe PP) := by
  refine fn1 (n := 2) Tryd.func22 rfl rfl (by simp) (argE [] 0) (argE_ok _) ?_
  refine e_seq ?_
  refine e_plain ?_
  refine e_alloc 0 zer24 rfl fun r1 => ?_
  refine e_nil ?_
  refine e_seq ?_
  refine e_plain ?_
  refine e_build (arr .u64 4 (wd PP)) zer24 und24 siz22 rfl (by kernel_rfl) rfl ?_
  refine e_storeA (i := 0) siz24 rfl rfl (arr_size _ _ _) arr_one rfl (arr_sz _ _ _ _ _) ?_
  refine e_nil ?_
  refine e_ret ?_
  exact ⟨_, rfl, .cell (i := 0) rfl rfl und24 rfl siz24 (arr_size _ _ _)⟩

set_option maxHeartbeats 400000 in
theorem times_fn (a n : Nat) (hn : n ≤ 1) : Fn Tryd.prog G 21 #[fe a, u n] (fe (a * n)) := by
  refine fn1 (n := 18) Tryd.func21 rfl rfl (by simp) (argE [fe a, u n] 0) (argE_ok _) ?_
  refine e_seq ?_
  refine e_plain ?_
  refine e_box 0 rfl rfl fun r1 => ?_
  refine e_alloc 1 zer24 rfl fun r2 => ?_
  refine e_nil ?_
  refine e_seq ?_
  refine e_seq ?_
  refine e_plain ?_
  refine e_move rfl rfl ?_
  refine e_nil ?_
  refine e_block ?_
  refine e_loop (fun kk E m => ∃ (k : Nat) (s : Nat → Nat), kk = 4 - k ∧ E = [(2, ptr r1), (1, u n), (4, ptr r2), (6, ii k)] ∧ m = [(0, ⟨r1, arr .u64 4 s, 24⟩), (1, ⟨r2, arr .u64 4 (fun _ => 0), 24⟩)] ∧ (k ≤ 4) ∧ (∀ j, j < k → s j = wd (a * n) j) ∧ (∀ j, k ≤ j → s j = wd a j)) [(2, ptr r1), (1, u n), (4, ptr r2), (6, ii 0)] [(0, ⟨r1, arr .u64 4 (wd a), 24⟩), (1, ⟨r2, arr .u64 4 (fun _ => 0), 24⟩)] (4 - 0) ⟨rfl, rfl, rfl, rfl, trivial⟩ ⟨rfl, rfl, trivial⟩ ⟨0, wd a, rfl, rfl, rfl, by omega, fun j hj => absurd hj (Nat.not_lt_zero j), fun j _ => rfl⟩ ?_
  rintro kk E m ⟨k, s, rfl, rfl, rfl, hf0_0, hf0_1, hf0_2⟩
  refine e_seq ?_
  refine e_plain ?_
  refine e_lt rfl rfl rfl ?_
  refine e_nil ?_
  refine e_seq ?_
  refine e_cond rfl ?_ ?_
  · intro hc0
    have hc0 := of_decide_eq_true hc0
    refine e_skip ?_
    refine e_seq ?_
    refine e_block ?_
    refine e_seq ?_
    refine e_plain ?_
    refine e_move rfl rfl ?_
    refine e_assign rfl rfl ?_
    refine e_nil ?_
    refine e_plain ?_
    refine e_move rfl rfl ?_
    refine e_index0 und24 siz22 rfl rfl (by omega) rfl ?_
    refine e_load1 (i := 0) und22 rfl rfl rfl (arr_get (by omega)) rfl ?_
    refine e_move rfl rfl ?_
    refine e_neg_u rfl rfl (by omega) ?_
    refine e_and_u rfl rfl rfl  ?_
    refine e_index0 und24 siz22 rfl rfl (by omega) rfl ?_
    refine e_storeN (i := 0) siz22 rfl rfl rfl (by omega) ?_
    refine e_nil ?_
    refine e_plain ?_
    refine e_add_i (q := 1) rfl rfl rfl (by omega) ?_
    refine e_move rfl rfl ?_
    refine e_nil ?_
    refine ⟨_, [(2, ptr r1), (1, u n), (4, ptr r2), (6, ii (k + 1))], [(0, ⟨r1, arr .u64 4 (upd s k _), 24⟩), (1, ⟨r2, arr .u64 4 (fun _ => 0), 24⟩)], ?_, ⟨rfl, rfl, rfl, rfl, trivial⟩, ⟨rfl, rfl, trivial⟩, k + 1, upd s k _, rfl, rfl, rfl, by omega, upd_lt hf0_1 (by rw [hf0_2 k (Nat.le_refl k)]; exact wd_mul01 a n k hn), upd_ge hf0_2⟩
    omega
  · intro hc0
    have hc0 := of_decide_eq_false hc0
    refine e_exit ?_
    refine e_seq ?_
    refine e_plain ?_
    refine e_loadA (i := 0) und24 rfl siz24 rfl rfl (arr_size _ _ _) rfl ?_
    refine e_storeA (i := 1) siz24 rfl rfl (arr_size _ _ _) arr_one rfl (arr_sz _ _ _ _ _) ?_
    refine e_nil ?_
    refine e_ret ?_
    have hk4 : k = 4 := by omega
    subst hk4
    rw [fe_of hf0_1]
    exact ⟨_, rfl, .cell (i := 1) rfl rfl und24 rfl siz24 (arr_size _ _ _)⟩

set_option maxHeartbeats 400000 in
theorem below_fn (a : Nat) (ha : a < 2 ^ 256) : Fn Tryd.prog G 17 #[fe a] (.bool (decide (a < PP))) := by
  have hPP := PP_eq
  refine fn1 (n := 13) Tryd.func17 rfl rfl (by simp) (argE [fe a] 0) (argE_ok _) ?_
  refine e_seq ?_
  refine e_plain ?_
  refine e_box 0 rfl rfl fun r1 => ?_
  refine e_assign rfl rfl ?_
  refine e_nil ?_
  refine e_seq ?_
  refine e_draw mixed (by kernel_rfl) ?_
  refine e_loadA (i := 0) und24 rfl siz24 rfl rfl (arr_size _ _ _) rfl ?_
  refine e_call rfl ent22 prime_fn rfl ?_
  refine e_call rfl ent20 (minus_fn _ _ (by omega) (by omega)) rfl ?_
  refine e_move rfl rfl ?_
  refine e_extract rfl rfl rfl ?_
  refine e_extract rfl rfl rfl ?_
  refine e_alloc 1 zer24 rfl fun r2 => ?_
  refine e_storeA (i := 1) siz24 rfl rfl (arr_size _ _ _) arr_one rfl (arr_sz _ _ _ _ _) ?_
  refine e_assign rfl rfl ?_
  refine e_nil ?_
  refine e_seq ?_
  refine e_plain ?_
  refine e_move rfl rfl ?_
  refine e_eq rfl rfl rfl ?_
  refine e_as (lt_bool _ _) ?_
  refine e_assign rfl rfl ?_
  refine e_nil ?_
  refine e_ret ?_
  exact ⟨_, rfl, .tmp rfl⟩

set_option maxHeartbeats 400000 in
theorem fold_fn (a ov : Nat) (ha : a < 2 ^ 256) (ho : ov < 2 ^ 50) : Fn Tryd.prog G 19 #[fe a, u ov] (fe ((a + ov * 2 ^ 256) % PP)) := by
  have hPP := PP_eq
  have h255 : a / 2 ^ 255 ≤ 1 := by omega
  have h256 := Nat.mod_lt a (show 0 < 2 ^ 255 from Nat.pow_pos (by decide))
  obtain ⟨Y, hY⟩ : ∃ Y, Y = a % 2 ^ 255 + (2 * ov + a / 2 ^ 255) * 19 := ⟨_, rfl⟩
  have hY2 : Y < 2 ^ 256 := by omega
  obtain ⟨t, ht⟩ : ∃ t, t = (if Y < PP then 1 else 0) := ⟨_, rfl⟩
  have hb1 : t ≤ 1 := by rw [ht]; split <;> omega
  have hb2 : PP * t < 2 ^ 256 := by rw [hPP]; omega
  have hY3 : (a % 2 ^ 255 + (2 * ov + a / 2 ^ 255) * 19) % 2 ^ 256 = Y := by rw [← hY]; exact Nat.mod_eq_of_lt hY2
  have hm1 := Nat.mod_lt (Y + 2 ^ 256 - PP) (show 0 < 2 ^ 256 from Nat.pow_pos (by decide))
  refine fn1 (n := 40) Tryd.func19 rfl rfl (by simp) (argE [fe a, u ov] 0) (argE_ok _) ?_
  refine e_seq ?_
  refine e_plain ?_
  refine e_box 0 rfl rfl fun r1 => ?_
  refine e_alloc 1 zer24 rfl fun r2 => ?_
  refine e_nil ?_
  refine e_seq ?_
  refine e_plain ?_
  refine e_move rfl rfl ?_
  refine e_shl_u (s := 1) rfl rfl rfl (by omega) ?_
  refine e_index0 (j := 3) und24 siz22 rfl rfl (by omega) rfl ?_
  refine e_load1 (i := 0) und22 rfl rfl rfl (arr_get (by omega)) rfl ?_
  refine e_shr_u (s := 63) rfl rfl rfl (by omega) ?_
  refine e_or_u rfl rfl rfl  ?_
  refine e_as (congrArg u (fold_or a ov ha ho)) ?_
  refine e_assign rfl rfl ?_
  refine e_nil ?_
  refine e_seq ?_
  refine e_plain ?_
  refine e_index0 (j := 3) und24 siz22 rfl rfl (by omega) rfl ?_
  refine e_load1 (i := 0) und22 rfl rfl rfl (arr_get (by omega)) rfl ?_
  refine e_and_u (q := 9223372036854775807) rfl rfl rfl  ?_
  refine e_index0 (j := 3) und24 siz22 rfl rfl (by omega) rfl ?_
  refine e_storeN (i := 0) siz22 rfl rfl rfl (by omega) ?_
  refine e_nil ?_
  refine e_seq ?_
  refine e_plain ?_
  refine e_loadA (i := 0) und24 rfl siz24 rfl rfl (arr_size _ _ _) rfl ?_
  refine e_as (fe_of (wd_low63 a ha)).symm ?_
  refine e_move rfl rfl ?_
  refine e_mul_u (q := 19) rfl rfl rfl  ?_
  refine e_as (congrArg u (Nat.mod_eq_of_lt (show (2 * ov + a / 2 ^ 255) * 19 < 18446744073709551616 by omega))) ?_
  refine e_build (arr .u64 4 (upd (fun _ => 0) 0 ((2 * ov + a / 2 ^ 255) * 19))) zer24 und24 siz22 rfl rfl rfl ?_
  refine e_as (fe_one ((2 * ov + a / 2 ^ 255) * 19) (by omega)) ?_
  refine e_call rfl ent18 (plus_fn _ _ (by omega) (by omega)) rfl ?_
  refine e_move rfl rfl ?_
  refine e_extract rfl rfl rfl ?_
  refine e_as (congrArg fe hY3) ?_
  refine e_extract rfl rfl rfl ?_
  refine e_storeA (i := 0) siz24 rfl rfl (arr_size _ _ _) arr_one rfl (arr_sz _ _ _ _ _) ?_
  refine e_nil ?_
  refine e_seq ?_
  refine e_draw mixed (by kernel_rfl) ?_
  refine e_loadA (i := 0) und24 rfl siz24 rfl rfl (arr_size _ _ _) rfl ?_
  refine e_call rfl ent22 prime_fn rfl ?_
  refine e_call rfl ent20 (minus_fn _ _ (by omega) (by omega)) rfl ?_
  refine e_move rfl rfl ?_
  refine e_extract rfl rfl rfl ?_
  refine e_extract rfl rfl rfl ?_
  refine e_as (congrArg u ht.symm) ?_
  refine e_alloc 2 zer24 rfl fun r3 => ?_
  refine e_storeA (i := 2) siz24 rfl rfl (arr_size _ _ _) arr_one rfl (arr_sz _ _ _ _ _) ?_
  refine e_assign rfl rfl ?_
  refine e_nil ?_
  refine e_seq ?_
  refine e_draw mixed (by kernel_rfl) ?_
  refine e_loadA (i := 2) und24 rfl siz24 rfl rfl (arr_size _ _ _) rfl ?_
  refine e_call rfl ent22 prime_fn rfl ?_
  refine e_move rfl rfl ?_
  refine e_call rfl ent21 (times_fn _ _ (by omega)) rfl ?_
  refine e_call rfl ent18 (plus_fn _ _ (by omega) (by omega)) rfl ?_
  refine e_move rfl rfl ?_
  refine e_extract rfl rfl rfl ?_
  refine e_extract rfl rfl rfl ?_
  refine e_storeA (i := 2) siz24 rfl rfl (arr_size _ _ _) arr_one rfl (arr_sz _ _ _ _ _) ?_
  refine e_nil ?_
  refine e_seq ?_
  refine e_plain ?_
  refine e_loadA (i := 2) und24 rfl siz24 rfl rfl (arr_size _ _ _) rfl ?_
  refine e_storeA (i := 1) siz24 rfl rfl (arr_size _ _ _) arr_one rfl (arr_sz _ _ _ _ _) ?_
  refine e_nil ?_
  refine e_ret ?_
  rw [← fold_fin a ov Y ha ho hY, ← ht]
  exact ⟨_, rfl, .cell (i := 1) rfl rfl und24 rfl siz24 (arr_size _ _ _)⟩

set_option maxHeartbeats 400000 in
theorem from_fn (f : Nat → Nat) (hf : ∀ j, j < 32 → f j < 256) : Fn Tryd.prog G 14 #[.agg (arr .u8 32 f)] (fe (vb f 32 % 2 ^ 255 % PP)) := by
  have hPP := PP_eq
  refine fn1 (n := 29) Tryd.func14 rfl rfl (by simp) (argE [.agg (arr .u8 32 f)] 0) (argE_ok _) ?_
  refine e_seq ?_
  refine e_plain ?_
  refine e_box 0 rfl rfl fun r1 => ?_
  refine e_alloc 1 zer24 rfl fun r2 => ?_
  refine e_nil ?_
  refine e_seq ?_
  refine e_plain ?_
  refine e_alloc 2 zer24 rfl fun r3 => ?_
  refine e_nil ?_
  refine e_seq ?_
  refine e_seq ?_
  refine e_plain ?_
  refine e_move rfl rfl ?_
  refine e_nil ?_
  refine e_block ?_
  refine e_loop (fun kk E m => ∃ (k : Nat) (s : Nat → Nat), kk = 32 - k ∧ E = [(1, ptr r1), (2, ptr r2), (3, ptr r3), (5, ii k)] ∧ m = [(0, ⟨r1, arr .u8 32 f, 32⟩), (1, ⟨r2, arr .u64 4 (fun _ => 0), 24⟩), (2, ⟨r3, arr .u64 4 s, 24⟩)] ∧ (k ≤ 32) ∧ (∀ j, j < 4 → s j = wd (vb f k) j)) [(1, ptr r1), (2, ptr r2), (3, ptr r3), (5, ii 0)] [(0, ⟨r1, arr .u8 32 f, 32⟩), (1, ⟨r2, arr .u64 4 (fun _ => 0), 24⟩), (2, ⟨r3, arr .u64 4 (fun _ => 0), 24⟩)] (32 - 0) ⟨rfl, rfl, rfl, rfl, trivial⟩ ⟨rfl, rfl, rfl, trivial⟩ ⟨0, fun _ => 0, rfl, rfl, rfl, by omega, fun j _ => by simp [vb, wd]⟩ ?_
  rintro kk E m ⟨k, s, rfl, rfl, rfl, hf0_0, hf0_1⟩
  refine e_seq ?_
  refine e_plain ?_
  refine e_lt rfl rfl rfl ?_
  refine e_nil ?_
  refine e_seq ?_
  refine e_cond rfl ?_ ?_
  · intro hc0
    have hc0 := of_decide_eq_true hc0
    refine e_skip ?_
    refine e_seq ?_
    refine e_block ?_
    refine e_seq ?_
    refine e_plain ?_
    refine e_move rfl rfl ?_
    refine e_assign rfl rfl ?_
    refine e_nil ?_
    refine e_draw mixed (by kernel_rfl) ?_
    refine e_move rfl rfl ?_
    refine e_quo_i (q := 8) rfl rfl rfl (by omega) (by omega) ?_
    refine e_index0 und24 siz22 rfl rfl (by omega) rfl ?_
    refine e_load1 (i := 2) und22 rfl rfl rfl (arr_get (by omega)) rfl ?_
    refine e_move rfl rfl ?_
    refine e_index0 und32 siz5 rfl rfl (by omega) rfl ?_
    refine e_load1 (i := 0) und5 rfl rfl rfl (arr_get (by omega)) rfl ?_
    refine e_conv_u und5 und22 rfl rfl ?_
    refine e_move rfl rfl ?_
    refine e_rem_i (q := 8) rfl rfl rfl (by omega) ?_
    refine e_mul_i (q := 8) rfl rfl rfl (by omega) ?_
    refine e_shl_u rfl rfl rfl (by omega) ?_
    refine e_or_u rfl rfl rfl  ?_
    refine e_index0 und24 siz22 rfl rfl (by omega) rfl ?_
    refine e_storeN (i := 2) siz22 rfl rfl rfl (by omega) ?_
    refine e_nil ?_
    refine e_plain ?_
    refine e_add_i (q := 1) rfl rfl rfl (by omega) ?_
    refine e_move rfl rfl ?_
    refine e_nil ?_
    refine ⟨_, [(1, ptr r1), (2, ptr r2), (3, ptr r3), (5, ii (k + 1))], [(0, ⟨r1, arr .u8 32 f, 32⟩), (1, ⟨r2, arr .u64 4 (fun _ => 0), 24⟩), (2, ⟨r3, arr .u64 4 (upd s (k / 8) _), 24⟩)], ?_, ⟨rfl, rfl, rfl, rfl, trivial⟩, ⟨rfl, rfl, rfl, trivial⟩, k + 1, upd s (k / 8) _, rfl, rfl, rfl, by omega, from_step f k s (by omega) hf hf0_1⟩
    omega
  · intro hc0
    have hc0 := of_decide_eq_false hc0
    have hk32 : k = 32 := by omega
    subst hk32
    have hA := from_top f s hf hf0_1
    refine e_exit ?_
    refine e_seq ?_
    refine e_plain ?_
    refine e_index0 (j := 3) und24 siz22 rfl rfl (by omega) rfl ?_
    refine e_load1 (i := 2) und22 rfl rfl rfl (arr_get (by omega)) rfl ?_
    refine e_and_u (q := 9223372036854775807) rfl rfl rfl  ?_
    refine e_index0 (j := 3) und24 siz22 rfl rfl (by omega) rfl ?_
    refine e_storeN (i := 2) siz22 rfl rfl rfl (by omega) ?_
    refine e_nil ?_
    refine e_seq ?_
    refine e_plain ?_
    refine e_loadA (i := 2) und24 rfl siz24 rfl rfl (arr_size _ _ _) rfl ?_
    refine e_as hA ?_
    refine e_call rfl ent19 (fold_fn (vb f 32 % 2 ^ 255) 0 (by omega) (by omega)) rfl ?_
    refine e_storeA (i := 1) siz24 rfl rfl (arr_size _ _ _) arr_one rfl (arr_sz _ _ _ _ _) ?_
    refine e_nil ?_
    refine e_ret ?_
    rw [show vb f 32 % 2 ^ 255 % PP = (vb f 32 % 2 ^ 255 + 0 * 2 ^ 256) % PP by rw [Nat.zero_mul, Nat.add_zero]]
    exact ⟨_, rfl, .cell (i := 1) rfl rfl und24 rfl siz24 (arr_size _ _ _)⟩

set_option maxHeartbeats 400000 in
theorem bytes_ok (a : Nat) (ha : a < PP) : Fn Tryd.prog G 13 #[fe a] (.tuple #[by32 a, ii 0]) := by
  have hPP := PP_eq
  refine fn2 (n := 26) Tryd.func13 rfl rfl (by simp) (argE [fe a] 0) (argE_ok _) ?_
  refine e_seq ?_
  refine e_plain ?_
  refine e_box 0 rfl rfl fun r1 => ?_
  refine e_alloc 1 zer32 rfl fun r2 => ?_
  refine e_assign rfl rfl ?_
  refine e_nil ?_
  refine e_seq ?_
  refine e_seq ?_
  refine e_plain ?_
  refine e_loadA (i := 0) und24 rfl siz24 rfl rfl (arr_size _ _ _) rfl ?_
  refine e_call rfl ent17 (below_fn _ (by omega)) rfl ?_
  refine e_not rfl rfl ?_
  refine e_nil ?_
  refine e_cond rfl ?_ ?_
  · intro hc0
    simp [ha] at hc0
  · intro hc0
    refine e_skip ?_
    refine e_seq ?_
    refine e_plain ?_
    refine e_alloc 2 zer32 rfl fun r3 => ?_
    refine e_nil ?_
    refine e_seq ?_
    refine e_seq ?_
    refine e_plain ?_
    refine e_move rfl rfl ?_
    refine e_nil ?_
    refine e_block ?_
    refine e_loop (fun kk E m => ∃ (k : Nat) (s : Nat → Nat), kk = 32 - k ∧ E = [(1, ptr r1), (2, ptr r2), (4, ptr r3), (10, ii k)] ∧ m = [(0, ⟨r1, arr .u64 4 (wd a), 24⟩), (1, ⟨r2, arr .u8 32 (fun _ => 0), 32⟩), (2, ⟨r3, arr .u8 32 s, 32⟩)] ∧ (k ≤ 32) ∧ (∀ j, j < k → s j = bt a j)) [(1, ptr r1), (2, ptr r2), (4, ptr r3), (10, ii 0)] [(0, ⟨r1, arr .u64 4 (wd a), 24⟩), (1, ⟨r2, arr .u8 32 (fun _ => 0), 32⟩), (2, ⟨r3, arr .u8 32 (fun _ => 0), 32⟩)] (32 - 0) ⟨rfl, rfl, rfl, rfl, trivial⟩ ⟨rfl, rfl, rfl, trivial⟩ ⟨0, fun _ => 0, rfl, rfl, rfl, by omega, fun j hj => absurd hj (Nat.not_lt_zero j)⟩ ?_
    rintro kk E m ⟨k, s, rfl, rfl, rfl, hf0_0, hf0_1⟩
    refine e_seq ?_
    refine e_plain ?_
    refine e_lt rfl rfl rfl ?_
    refine e_nil ?_
    refine e_seq ?_
    refine e_cond rfl ?_ ?_
    · intro hc1
      have hc1 := of_decide_eq_true hc1
      refine e_skip ?_
      refine e_seq ?_
      refine e_block ?_
      refine e_seq ?_
      refine e_plain ?_
      refine e_move rfl rfl ?_
      refine e_assign rfl rfl ?_
      refine e_nil ?_
      refine e_plain ?_
      refine e_move rfl rfl ?_
      refine e_move rfl rfl ?_
      refine e_quo_i (q := 8) rfl rfl rfl (by omega) (by omega) ?_
      refine e_index0 und24 siz22 rfl rfl (by omega) rfl ?_
      refine e_load1 (i := 0) und22 rfl rfl rfl (arr_get (by omega)) rfl ?_
      refine e_move rfl rfl ?_
      refine e_rem_i (q := 8) rfl rfl rfl (by omega) ?_
      refine e_mul_i (q := 8) rfl rfl rfl (by omega) ?_
      refine e_shr_u rfl rfl rfl (by omega) ?_
      refine e_conv_u8 und22 und5 rfl rfl ?_
      refine e_index0 und32 siz5 rfl rfl (by omega) rfl ?_
      refine e_storeN (i := 2) siz5 rfl rfl rfl (by omega) ?_
      refine e_nil ?_
      refine e_plain ?_
      refine e_add_i (q := 1) rfl rfl rfl (by omega) ?_
      refine e_move rfl rfl ?_
      refine e_nil ?_
      refine ⟨_, [(1, ptr r1), (2, ptr r2), (4, ptr r3), (10, ii (k + 1))], [(0, ⟨r1, arr .u64 4 (wd a), 24⟩), (1, ⟨r2, arr .u8 32 (fun _ => 0), 32⟩), (2, ⟨r3, arr .u8 32 (upd s k _), 32⟩)], ?_, ⟨rfl, rfl, rfl, rfl, trivial⟩, ⟨rfl, rfl, rfl, trivial⟩, k + 1, upd s k _, rfl, rfl, rfl, by omega, upd_lt hf0_1 (bt_word a k)⟩
      omega
    · intro hc1
      have hc1 := of_decide_eq_false hc1
      refine e_exit ?_
      refine e_seq ?_
      refine e_plain ?_
      refine e_loadA (i := 2) und32 rfl siz32 rfl rfl (arr_size _ _ _) rfl ?_
      refine e_storeA (i := 1) siz32 rfl rfl (arr_size _ _ _) arr_one rfl (arr_sz _ _ _ _ _) ?_
      refine e_assign rfl rfl ?_
      refine e_nil ?_
      refine e_ret ?_
      have hk32 : k = 32 := by omega
      subst hk32
      rw [← by_congr hf0_1]
      exact ⟨_, _, rfl, .cell (i := 1) rfl rfl und32 rfl siz32 (arr_size _ _ _), .tmp rfl⟩

set_option maxHeartbeats 400000 in
theorem bytes_bad (a : Nat) (ha : a < 2 ^ 256) (hb : ¬ a < PP) : Fn Tryd.prog G 13 #[fe a] (.tuple #[.agg (arr .u8 32 (fun _ => 0)), ii 6]) := by
  refine fn2 (n := 26) Tryd.func13 rfl rfl (by simp) (argE [fe a] 0) (argE_ok _) ?_
  refine e_seq ?_
  refine e_plain ?_
  refine e_box 0 rfl rfl fun r1 => ?_
  refine e_alloc 1 zer32 rfl fun r2 => ?_
  refine e_assign rfl rfl ?_
  refine e_nil ?_
  refine e_seq ?_
  refine e_seq ?_
  refine e_plain ?_
  refine e_loadA (i := 0) und24 rfl siz24 rfl rfl (arr_size _ _ _) rfl ?_
  refine e_call rfl ent17 (below_fn _ (by omega)) rfl ?_
  refine e_not rfl rfl ?_
  refine e_nil ?_
  refine e_cond rfl ?_ ?_
  · intro hc0
    refine e_seq ?_
    refine e_plain ?_
    refine e_build0 zer32 und32 sis5 rfl ?_
    refine e_storeA (i := 1) siz32 rfl rfl (arr_size _ _ _) arr_one rfl (arr_sz _ _ _ _ _) ?_
    refine e_assign rfl rfl ?_
    refine e_nil ?_
    refine e_ret ?_
    exact ⟨_, _, rfl, .cell (i := 1) rfl rfl und32 rfl siz32 (arr_size _ _ _), .tmp rfl⟩
  · intro hc0
    simp at hc0; exact absurd hc0 hb

end Go.Proofs.YtkoigikldikmmaaDoor
