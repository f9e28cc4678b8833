/-
  Walks, written by a program of ours off the loaded functions.
-/
import Derived.Test.YtmnmhmpklknleaaP8
import Derived.Test.YtmnmhmpklknleaaPol8
import Derived.Test.YtmnmhmpklknleaaBits
namespace Go.Proofs.Ytmnmhmpklknleaa
open Go Go.RowKit


theorem ent31 : enters Try.prog 31 = true := by kernel_rfl
theorem ent32 : enters Try.prog 32 = true := by kernel_rfl
theorem ent38 : enters Try.prog 38 = true := by kernel_rfl
theorem ent41 : enters Try.prog 41 = true := by kernel_rfl
theorem siz53 : (Try.prog.info? 53).map (·.size) = some 5 := by kernel_rfl
theorem siz61 : (Try.prog.info? 61).map (·.size) = some 3 := by kernel_rfl
theorem und53 : Try.prog.underlying 53 = some (.array 5 23) := by kernel_rfl
theorem und61 : Try.prog.underlying 61 = some (.array 3 23) := by kernel_rfl
theorem zer53 : (Try.prog.info? 53).bind (·.zero) = some (.agg (arr .u64 5 fun _ => 0)) := by kernel_rfl
theorem zer61 : (Try.prog.info? 61).bind (·.zero) = some (.agg (arr .u64 3 fun _ => 0)) := by kernel_rfl

variable {G : Mem}

set_option maxHeartbeats 400000 in
theorem dprime_fn : Fn Try.prog G 32 #[] (f3 QQ) := by
  refine fn1 (n := 2) Try.func32 rfl rfl (by simp) (argE [] 0) (argE_ok _) ?_
  refine e_seq ?_
  refine e_plain ?_
  refine e_alloc 0 zer61 rfl fun r1 => ?_
  refine e_nil ?_
  refine e_seq ?_
  refine e_plain ?_
  refine e_build (arr .u64 3 (wd QQ)) zer61 und61 siz23 rfl (by kernel_rfl) rfl ?_
  refine e_storeA (i := 0) siz61 rfl rfl (arr_size _ _ _) arr_one rfl (arr_sz _ _ _ _ _) (.inl rfl) ?_
  refine e_nil ?_
  refine e_ret ?_
  exact ⟨_, rfl, .cell (i := 0) rfl rfl und61 rfl siz61 (arr_size _ _ _)⟩

set_option maxHeartbeats 400000 in
theorem dpair_fn (f : Nat → Nat) (hf : ∀ j, j < 16 → f j < 256) : Fn Try.prog G 20 #[.agg (arr .u8 16 f)] (f2 (vb f 16)) := by
  refine fn1 (n := 25) Try.func20 rfl rfl (by simp) (argE [.agg (arr .u8 16 f)] 0) (argE_ok _) ?_
  refine e_seq ?_
  refine e_plain ?_
  refine e_box 0 rfl rfl fun r1 => ?_
  refine e_alloc 1 zer24 rfl fun r2 => ?_
  refine e_nil ?_
  refine e_seq ?_
  refine e_plain ?_
  refine e_alloc 2 zer24 rfl fun r3 => ?_
  refine e_nil ?_
  refine e_seq ?_
  refine e_seq ?_
  refine e_plain ?_
  refine e_loadA (i := 0) und26 rfl siz26 rfl rfl (arr_size _ _ _) rfl ⟨[], trivial⟩ ?_
  refine e_move rfl rfl ?_
  refine e_nil ?_
  refine e_block ?_
  refine e_loopK [(2, _), (3, _), (6, _)] [(0, _), (1, _)] (fun kk E m => ∃ (k : Nat) (s : Nat → Nat), kk = 16 - k ∧ E = [(7, ii k)] ∧ m = [(2, some ⟨r3, arr .u64 2 s, 24⟩)] ∧ (k ≤ 16) ∧ (∀ j, j < 4 → s j = wd (vb f k) j)) [(7, ii 0)] [(2, some ⟨r3, arr .u64 2 (fun _ => 0), 24⟩)] (16 - 0) ⟨rfl, rfl, rfl, rfl, trivial⟩ ⟨rfl, rfl, rfl, trivial⟩ ⟨0, fun _ => 0, rfl, rfl, rfl, by omega, fun j _ => by simp [vb, wd]⟩ ?_
  rintro kk E m ⟨k, s, rfl, rfl, rfl, hf0_0, hf0_1⟩
  simp only [catE, catL]
  refine e_seq ?_
  refine e_plain ?_
  refine e_lt rfl rfl rfl ?_
  refine e_nil ?_
  refine e_seq ?_
  refine e_cond rfl ?_ ?_
  · intro hc0
    have hc0 : k < 16 := by have := of_decide_eq_true hc0; omega
    refine e_skip ?_
    refine e_seq ?_
    refine e_block ?_
    refine e_seq ?_
    refine e_plain ?_
    refine e_move rfl rfl ?_
    refine e_idx und26 und5 siz5 rfl rfl (by omega) rfl ?_
    refine e_assign rfl rfl ?_
    refine e_assign rfl rfl ?_
    refine e_nil ?_
    refine e_draw mixed (by kernel_rfl) ?_
    refine e_move rfl rfl ?_
    refine e_quo_i (q := 8) rfl rfl rfl (by omega) (by omega) ?_
    refine e_index0 und24 siz23 rfl rfl (by omega) rfl ?_
    refine e_load1 (i := 2) und23 rfl rfl rfl (arr_get (by omega)) rfl ⟨[], trivial⟩ ?_
    refine e_move rfl rfl ?_
    refine e_conv_u und5 und23 rfl rfl rfl ?_
    refine e_move rfl rfl ?_
    refine e_rem_i (q := 8) rfl rfl rfl (by omega) ?_
    refine e_mul_i (q := 8) rfl rfl rfl (by omega) ?_
    refine e_shl_u rfl rfl rfl (by omega) ?_
    refine e_or_u rfl rfl rfl  ?_
    refine e_index0 und24 siz23 rfl rfl (by omega) rfl ?_
    refine e_storeN (i := 2) siz23 rfl rfl rfl (by omega) (.inl rfl) ?_
    refine e_nil ?_
    refine e_plain ?_
    refine e_add_i (q := 1) rfl rfl rfl (by omega) ?_
    refine e_move rfl rfl ?_
    refine e_nil ?_
    refine ⟨_, [(7, ii (k + 1))], [(2, some ⟨r3, arr .u64 2 (upd s (k / 8) _), 24⟩)], ?_, ⟨rfl, rfl, rfl, rfl, trivial⟩, ⟨rfl, rfl, rfl, trivial⟩, k + 1, upd s (k / 8) _, rfl, rfl, rfl, by omega, pair_step (by omega) hf hf0_1⟩
    omega
  · intro hc0
    have hc0 := of_decide_eq_false hc0
    have hz0 : k = 16 := by omega
    subst hz0
    refine e_exit ?_
    refine e_seq ?_
    refine e_plain ?_
    refine e_loadA (i := 2) und24 rfl siz24 rfl rfl (arr_size _ _ _) rfl ⟨[], trivial⟩ ?_
    refine e_storeA (i := 1) siz24 rfl rfl (arr_size _ _ _) arr_one rfl (arr_sz _ _ _ _ _) (.inl rfl) ?_
    refine e_nil ?_
    refine e_ret ?_
    rw [f2_of (fun j hj => hf0_1 j (by omega))]
    exact ⟨_, rfl, .cell (i := 1) rfl rfl und24 rfl siz24 (arr_size _ _ _)⟩

set_option maxHeartbeats 400000 in
theorem dclamped_fn (r : Nat → Nat) : Fn Try.prog G 21 #[.agg (arr .u64 2 r)] (.agg (arr .u64 2 (clf r))) := by
  refine fn1 (n := 10) Try.func21 rfl rfl (by simp) (argE [.agg (arr .u64 2 r)] 0) (argE_ok _) ?_
  refine e_seq ?_
  refine e_plain ?_
  refine e_box 0 rfl rfl fun r1 => ?_
  refine e_alloc 1 zer24 rfl fun r2 => ?_
  refine e_nil ?_
  refine e_seq ?_
  refine e_plain ?_
  refine e_index0 (j := 0) und24 siz23 rfl rfl (by omega) rfl ?_
  refine e_load1 (i := 0) und23 rfl rfl rfl (arr_get (by omega)) rfl ⟨[], trivial⟩ ?_
  refine e_and_u (q := 1152921487695413247) rfl rfl rfl  ?_
  refine e_index0 (j := 1) und24 siz23 rfl rfl (by omega) rfl ?_
  refine e_load1 (i := 0) und23 rfl rfl rfl (arr_get (by omega)) rfl ⟨[], trivial⟩ ?_
  refine e_and_u (q := 1152921487695413244) rfl rfl rfl  ?_
  refine e_build (arr .u64 2 (clf r)) zer24 und24 siz23 rfl rfl rfl ?_
  refine e_storeA (i := 1) siz24 rfl rfl (arr_size _ _ _) arr_one rfl (arr_sz _ _ _ _ _) (.inl rfl) ?_
  refine e_nil ?_
  refine e_ret ?_
  exact ⟨_, rfl, .cell (i := 1) rfl rfl und24 rfl siz24 (arr_size _ _ _)⟩

set_option maxHeartbeats 400000 in
theorem dplus_fn (a b : Nat) : Fn Try.prog G 34 #[f3 a, f3 b] (f3 (a + b)) := by
  refine fn1 (n := 26) Try.func34 rfl rfl (by simp) (argE [f3 a, f3 b] 0) (argE_ok _) ?_
  refine e_seq ?_
  refine e_plain ?_
  refine e_box 0 rfl rfl fun r1 => ?_
  refine e_box 1 rfl rfl fun r2 => ?_
  refine e_alloc 2 zer61 rfl fun r3 => ?_
  refine e_nil ?_
  refine e_seq ?_
  refine e_plain ?_
  refine e_alloc 3 zer61 rfl fun r4 => ?_
  refine e_nil ?_
  refine e_seq ?_
  refine e_plain ?_
  refine e_assign rfl rfl ?_
  refine e_nil ?_
  refine e_seq ?_
  refine e_seq ?_
  refine e_plain ?_
  refine e_move rfl rfl ?_
  refine e_nil ?_
  refine e_block ?_
  refine e_loopK [(2, _), (3, _), (4, _), (5, _)] [(0, _), (1, _), (2, _)] (fun kk E m => ∃ (k : Nat) (s : Nat → Nat), kk = 3 - k ∧ E = [(6, u (car a b k)), (8, ii k)] ∧ m = [(3, some ⟨r4, arr .u64 3 s, 61⟩)] ∧ (k ≤ 3) ∧ (∀ j, j < k → s j = wd (a + b) j)) [(6, u (car a b 0)), (8, ii 0)] [(3, some ⟨r4, arr .u64 3 (fun _ => 0), 61⟩)] (3 - 0) ⟨by rw [car_zero]; rfl, rfl, rfl, rfl, rfl, rfl, trivial⟩ ⟨rfl, rfl, rfl, rfl, trivial⟩ ⟨0, fun _ => 0, rfl, rfl, rfl, by omega, fun j hj => absurd hj (Nat.not_lt_zero j)⟩ ?_
  rintro kk E m ⟨k, s, rfl, rfl, rfl, hf0_0, hf0_1⟩
  simp only [catE, catL]
  have hcl := car_le a b k
  refine e_seq ?_
  refine e_plain ?_
  refine e_lt rfl rfl rfl ?_
  refine e_nil ?_
  refine e_seq ?_
  refine e_cond rfl ?_ ?_
  · intro hc0
    have hc0 : k < 3 := by have := of_decide_eq_true hc0; omega
    refine e_skip ?_
    refine e_seq ?_
    refine e_block ?_
    refine e_seq ?_
    refine e_plain ?_
    refine e_move rfl rfl ?_
    refine e_assign rfl rfl ?_
    refine e_nil ?_
    refine e_drawR ⟨[r4], 1, []⟩ mixed (by kernel_rfl) ?_
    refine e_move rfl rfl ?_
    refine e_move rfl rfl ?_
    refine e_index0 und61 siz23 rfl rfl (by omega) rfl ?_
    refine e_load1 (i := 0) und23 rfl rfl rfl (arr_get (by omega)) rfl ⟨[3], rfl, rfl, trivial⟩ ?_
    refine e_move rfl rfl ?_
    refine e_index0 und61 siz23 rfl rfl (by omega) rfl ?_
    refine e_load1 (i := 1) und23 rfl rfl rfl (arr_get (by omega)) rfl ⟨[3], rfl, rfl, trivial⟩ ?_
    refine e_move rfl rfl ?_
    refine e_callE rfl (fun w => add64 _ _ _ (by omega) w) rfl rfl ?_
    refine e_move rfl rfl ?_
    refine e_extract rfl rfl rfl ?_
    refine e_extract rfl rfl rfl ?_
    refine e_index0 und61 siz23 rfl rfl (by omega) rfl ?_
    refine e_storeN (i := 3) siz23 rfl rfl rfl (by omega) (.inr (by simp)) ?_
    refine e_assign rfl rfl ?_
    refine e_nil ?_
    refine e_plain ?_
    refine e_add_i (q := 1) rfl rfl rfl (by omega) ?_
    refine e_move rfl rfl ?_
    refine e_nil ?_
    refine ⟨_, [(6, u (car a b (k + 1))), (8, ii (k + 1))], [(3, some ⟨r4, arr .u64 3 (upd s k _), 61⟩)], ?_, ⟨by rw [← car_next]; rfl, rfl, rfl, rfl, rfl, rfl, trivial⟩, ⟨rfl, rfl, rfl, rfl, trivial⟩, k + 1, upd s k _, rfl, rfl, rfl, by omega, upd_lt hf0_1 (car_word a b k)⟩
    omega
  · intro hc0
    have hc0 := of_decide_eq_false hc0
    have hz0 : k = 3 := by omega
    subst hz0
    refine e_exit ?_
    refine e_seq ?_
    refine e_plain ?_
    refine e_loadA (i := 3) und61 rfl siz61 rfl rfl (arr_size _ _ _) rfl ⟨[], trivial⟩ ?_
    refine e_storeA (i := 2) siz61 rfl rfl (arr_size _ _ _) arr_one rfl (arr_sz _ _ _ _ _) (.inl rfl) ?_
    refine e_nil ?_
    refine e_ret ?_
    rw [f3_of hf0_1]
    exact ⟨_, rfl, .cell (i := 2) rfl rfl und61 rfl siz61 (arr_size _ _ _)⟩

set_option maxHeartbeats 400000 in
theorem dminus_fn (a b : Nat) (ha : a < 2 ^ 192) (hb : b < 2 ^ 192) : Fn Try.prog G 31 #[f3 a, f3 b] (.tuple #[f3 (a + 2 ^ 256 - b), u (if a < b then 1 else 0)]) := by
  have hfin : bor a b 3 = if a < b then 1 else 0 := by
    unfold bor
    rw [Nat.mod_eq_of_lt (show a < 2 ^ (64 * 3) from ha), Nat.mod_eq_of_lt (show b < 2 ^ (64 * 3) from hb)]
  refine fn2 (n := 28) Try.func31 rfl rfl (by simp) (argE [f3 a, f3 b] 0) (argE_ok _) ?_
  refine e_seq ?_
  refine e_plain ?_
  refine e_box 0 rfl rfl fun r1 => ?_
  refine e_box 1 rfl rfl fun r2 => ?_
  refine e_alloc 2 zer61 rfl fun r3 => ?_
  refine e_assign rfl rfl ?_
  refine e_nil ?_
  refine e_seq ?_
  refine e_plain ?_
  refine e_alloc 3 zer61 rfl fun r4 => ?_
  refine e_nil ?_
  refine e_seq ?_
  refine e_plain ?_
  refine e_assign rfl rfl ?_
  refine e_nil ?_
  refine e_seq ?_
  refine e_seq ?_
  refine e_plain ?_
  refine e_move rfl rfl ?_
  refine e_nil ?_
  refine e_block ?_
  refine e_loopK [(2, _), (3, _), (4, _), (5, _), (6, _)] [(0, _), (1, _), (2, _)] (fun kk E m => ∃ (k : Nat) (s : Nat → Nat), kk = 3 - k ∧ E = [(7, u (bor a b k)), (9, ii k)] ∧ m = [(3, some ⟨r4, arr .u64 3 s, 61⟩)] ∧ (k ≤ 3) ∧ (∀ j, j < k → s j = wd (a + 2 ^ 256 - b) j)) [(7, u (bor a b 0)), (9, ii 0)] [(3, some ⟨r4, arr .u64 3 (fun _ => 0), 61⟩)] (3 - 0) ⟨by rw [bor_zero]; rfl, rfl, rfl, rfl, rfl, rfl, rfl, trivial⟩ ⟨rfl, rfl, rfl, rfl, trivial⟩ ⟨0, fun _ => 0, rfl, rfl, rfl, by omega, fun j hj => absurd hj (Nat.not_lt_zero j)⟩ ?_
  rintro kk E m ⟨k, s, rfl, rfl, rfl, hf0_0, hf0_1⟩
  simp only [catE, catL]
  have hcl := bor_le a b k
  have hwl := wd_lt b k
  refine e_seq ?_
  refine e_plain ?_
  refine e_lt rfl rfl rfl ?_
  refine e_nil ?_
  refine e_seq ?_
  refine e_cond rfl ?_ ?_
  · intro hc0
    have hc0 : k < 3 := by have := of_decide_eq_true hc0; omega
    refine e_skip ?_
    refine e_seq ?_
    refine e_block ?_
    refine e_seq ?_
    refine e_plain ?_
    refine e_move rfl rfl ?_
    refine e_assign rfl rfl ?_
    refine e_nil ?_
    refine e_drawR ⟨[r4], 1, []⟩ mixed (by kernel_rfl) ?_
    refine e_move rfl rfl ?_
    refine e_move rfl rfl ?_
    refine e_index0 und61 siz23 rfl rfl (by omega) rfl ?_
    refine e_load1 (i := 0) und23 rfl rfl rfl (arr_get (by omega)) rfl ⟨[3], rfl, rfl, trivial⟩ ?_
    refine e_move rfl rfl ?_
    refine e_index0 und61 siz23 rfl rfl (by omega) rfl ?_
    refine e_load1 (i := 1) und23 rfl rfl rfl (arr_get (by omega)) rfl ⟨[3], rfl, rfl, trivial⟩ ?_
    refine e_move rfl rfl ?_
    refine e_callE rfl (fun w => sub64 _ _ _ (by omega) (by omega) w) rfl rfl ?_
    refine e_move rfl rfl ?_
    refine e_extract rfl rfl rfl ?_
    refine e_extract rfl rfl rfl ?_
    refine e_index0 und61 siz23 rfl rfl (by omega) rfl ?_
    refine e_storeN (i := 3) siz23 rfl rfl rfl (by omega) (.inr (by simp)) ?_
    refine e_assign rfl rfl ?_
    refine e_nil ?_
    refine e_plain ?_
    refine e_add_i (q := 1) rfl rfl rfl (by omega) ?_
    refine e_move rfl rfl ?_
    refine e_nil ?_
    refine ⟨_, [(7, u (bor a b (k + 1))), (9, ii (k + 1))], [(3, some ⟨r4, arr .u64 3 (upd s k _), 61⟩)], ?_, ⟨by rw [← bor_next]; rfl, rfl, rfl, rfl, rfl, rfl, rfl, trivial⟩, ⟨rfl, rfl, rfl, rfl, trivial⟩, k + 1, upd s k _, rfl, rfl, rfl, by omega, upd_lt hf0_1 (bor_word a b k (by omega) (by omega))⟩
    omega
  · intro hc0
    have hc0 := of_decide_eq_false hc0
    have hz0 : k = 3 := by omega
    subst hz0
    refine e_exit ?_
    refine e_seq ?_
    refine e_plain ?_
    refine e_loadA (i := 3) und61 rfl siz61 rfl rfl (arr_size _ _ _) rfl ⟨[], trivial⟩ ?_
    refine e_move rfl rfl ?_
    refine e_storeA (i := 2) siz61 rfl rfl (arr_size _ _ _) arr_one rfl (arr_sz _ _ _ _ _) (.inl rfl) ?_
    refine e_assign rfl rfl ?_
    refine e_nil ?_
    refine e_ret ?_
    rw [← hfin, f3_of hf0_1]
    exact ⟨_, _, rfl, .cell (i := 2) rfl rfl und61 rfl siz61 (arr_size _ _ _), .tmp rfl⟩

set_option maxHeartbeats 400000 in
theorem dbelow_fn (a : Nat) (ha : a < 2 ^ 192) : Fn Try.prog G 22 #[f3 a] (.bool (decide (a < QQ))) := by
  have hQQ := QQ_eq
  refine fn1 (n := 13) Try.func22 rfl rfl (by simp) (argE [f3 a] 0) (argE_ok _) ?_
  refine e_seq ?_
  refine e_plain ?_
  refine e_box 0 rfl rfl fun r1 => ?_
  refine e_assign rfl rfl ?_
  refine e_nil ?_
  refine e_seq ?_
  refine e_draw mixed (by kernel_rfl) ?_
  refine e_loadA (i := 0) und61 rfl siz61 rfl rfl (arr_size _ _ _) rfl ⟨[], trivial⟩ ?_
  refine e_call rfl ent32 dprime_fn rfl rfl ?_
  refine e_call rfl ent31 (dminus_fn _ _ (by omega) (by omega)) rfl rfl ?_
  refine e_move rfl rfl ?_
  refine e_extract rfl rfl rfl ?_
  refine e_extract rfl rfl rfl ?_
  refine e_alloc 1 zer61 rfl fun r2 => ?_
  refine e_storeA (i := 1) siz61 rfl rfl (arr_size _ _ _) arr_one rfl (arr_sz _ _ _ _ _) (.inl rfl) ?_
  refine e_assign rfl rfl ?_
  refine e_nil ?_
  refine e_seq ?_
  refine e_plain ?_
  refine e_move rfl rfl ?_
  refine e_eq rfl rfl rfl ?_
  refine e_as (lt_bool _ _) ?_
  refine e_assign rfl rfl ?_
  refine e_nil ?_
  refine e_ret ?_
  exact ⟨_, rfl, .tmp rfl⟩

set_option maxHeartbeats 400000 in
theorem dtimes_fn (a n : Nat) (hn : n ≤ 1) : Fn Try.prog G 39 #[f3 a, u n] (f3 (a * n)) := by
  refine fn1 (n := 18) Try.func39 rfl rfl (by simp) (argE [f3 a, u n] 0) (argE_ok _) ?_
  refine e_seq ?_
  refine e_plain ?_
  refine e_box 0 rfl rfl fun r1 => ?_
  refine e_alloc 1 zer61 rfl fun r2 => ?_
  refine e_nil ?_
  refine e_seq ?_
  refine e_seq ?_
  refine e_plain ?_
  refine e_move rfl rfl ?_
  refine e_nil ?_
  refine e_block ?_
  refine e_loopK [(1, _), (2, _), (4, _)] [(1, _)] (fun kk E m => ∃ (k : Nat) (s : Nat → Nat), kk = 3 - k ∧ E = [(6, ii k)] ∧ m = [(0, some ⟨r1, arr .u64 3 s, 61⟩)] ∧ (k ≤ 3) ∧ (∀ j, j < k → s j = wd (a * n) j) ∧ (∀ j, k ≤ j → s j = wd a j)) [(6, ii 0)] [(0, some ⟨r1, arr .u64 3 (wd a), 61⟩)] (3 - 0) ⟨rfl, rfl, rfl, rfl, trivial⟩ ⟨rfl, rfl, trivial⟩ ⟨0, wd a, rfl, rfl, rfl, by omega, fun j hj => absurd hj (Nat.not_lt_zero j), fun j _ => rfl⟩ ?_
  rintro kk E m ⟨k, s, rfl, rfl, rfl, hf0_0, hf0_1, hf0_2⟩
  simp only [catE, catL]
  refine e_seq ?_
  refine e_plain ?_
  refine e_lt rfl rfl rfl ?_
  refine e_nil ?_
  refine e_seq ?_
  refine e_cond rfl ?_ ?_
  · intro hc0
    have hc0 : k < 3 := by have := of_decide_eq_true hc0; omega
    refine e_skip ?_
    refine e_seq ?_
    refine e_block ?_
    refine e_seq ?_
    refine e_plain ?_
    refine e_move rfl rfl ?_
    refine e_assign rfl rfl ?_
    refine e_nil ?_
    refine e_plain ?_
    refine e_move rfl rfl ?_
    refine e_index0 und61 siz23 rfl rfl (by omega) rfl ?_
    refine e_load1 (i := 0) und23 rfl rfl rfl (arr_get (by omega)) rfl ⟨[], trivial⟩ ?_
    refine e_move rfl rfl ?_
    refine e_neg_u rfl rfl (by omega) ?_
    refine e_and_u rfl rfl rfl  ?_
    refine e_index0 und61 siz23 rfl rfl (by omega) rfl ?_
    refine e_storeN (i := 0) siz23 rfl rfl rfl (by omega) (.inl rfl) ?_
    refine e_nil ?_
    refine e_plain ?_
    refine e_add_i (q := 1) rfl rfl rfl (by omega) ?_
    refine e_move rfl rfl ?_
    refine e_nil ?_
    refine ⟨_, [(6, ii (k + 1))], [(0, some ⟨r1, arr .u64 3 (upd s k _), 61⟩)], ?_, ⟨rfl, rfl, rfl, rfl, trivial⟩, ⟨rfl, rfl, trivial⟩, k + 1, upd s k _, rfl, rfl, rfl, by omega, upd_lt hf0_1 (by rw [hf0_2 k (Nat.le_refl k)]; exact wd_mul01 a n k hn), upd_ge hf0_2⟩
    omega
  · intro hc0
    have hc0 := of_decide_eq_false hc0
    have hz0 : k = 3 := by omega
    subst hz0
    refine e_exit ?_
    refine e_seq ?_
    refine e_plain ?_
    refine e_loadA (i := 0) und61 rfl siz61 rfl rfl (arr_size _ _ _) rfl ⟨[], trivial⟩ ?_
    refine e_storeA (i := 1) siz61 rfl rfl (arr_size _ _ _) arr_one rfl (arr_sz _ _ _ _ _) (.inl rfl) ?_
    refine e_nil ?_
    refine e_ret ?_
    rw [f3_of hf0_1]
    exact ⟨_, rfl, .cell (i := 1) rfl rfl und61 rfl siz61 (arr_size _ _ _)⟩

set_option maxHeartbeats 400000 in
theorem mul64_fn (x y : Nat) (hx : x < 18446744073709551616) (hy : y < 18446744073709551616) : Fn Try.prog G 41 #[u x, u y] (.tuple #[u (x * y / 18446744073709551616), u (x * y % 18446744073709551616)]) := by
  refine fn2 (n := 51) Try.func41 rfl rfl (by simp) (argE [u x, u y] 0) (argE_ok _) ?_
  refine e_seq ?_
  refine e_plain ?_
  refine e_assign rfl rfl ?_
  refine e_assign rfl rfl ?_
  refine e_nil ?_
  refine e_seq ?_
  refine e_plain ?_
  refine e_move rfl rfl ?_
  refine e_and_u (q := 4294967295) rfl rfl rfl  ?_
  refine e_assign rfl rfl ?_
  refine e_nil ?_
  refine e_seq ?_
  refine e_plain ?_
  refine e_move rfl rfl ?_
  refine e_shr_u (s := 32) rfl rfl rfl (by omega) ?_
  refine e_assign rfl rfl ?_
  refine e_nil ?_
  refine e_seq ?_
  refine e_plain ?_
  refine e_move rfl rfl ?_
  refine e_and_u (q := 4294967295) rfl rfl rfl  ?_
  refine e_assign rfl rfl ?_
  refine e_nil ?_
  refine e_seq ?_
  refine e_plain ?_
  refine e_move rfl rfl ?_
  refine e_shr_u (s := 32) rfl rfl rfl (by omega) ?_
  refine e_assign rfl rfl ?_
  refine e_nil ?_
  refine e_seq ?_
  refine e_plain ?_
  refine e_move rfl rfl ?_
  refine e_move rfl rfl ?_
  refine e_mul_u rfl rfl rfl  ?_
  refine e_assign rfl rfl ?_
  refine e_nil ?_
  refine e_seq ?_
  refine e_plain ?_
  refine e_move rfl rfl ?_
  refine e_move rfl rfl ?_
  refine e_mul_u rfl rfl rfl  ?_
  refine e_move rfl rfl ?_
  refine e_shr_u (s := 32) rfl rfl rfl (by omega) ?_
  refine e_add_u rfl rfl rfl  ?_
  refine e_assign rfl rfl ?_
  refine e_nil ?_
  refine e_seq ?_
  refine e_plain ?_
  refine e_move rfl rfl ?_
  refine e_and_u (q := 4294967295) rfl rfl rfl  ?_
  refine e_assign rfl rfl ?_
  refine e_nil ?_
  refine e_seq ?_
  refine e_plain ?_
  refine e_move rfl rfl ?_
  refine e_shr_u (s := 32) rfl rfl rfl (by omega) ?_
  refine e_assign rfl rfl ?_
  refine e_nil ?_
  refine e_seq ?_
  refine e_plain ?_
  refine e_move rfl rfl ?_
  refine e_move rfl rfl ?_
  refine e_move rfl rfl ?_
  refine e_mul_u rfl rfl rfl  ?_
  refine e_add_u rfl rfl rfl  ?_
  refine e_assign rfl rfl ?_
  refine e_nil ?_
  refine e_seq ?_
  refine e_plain ?_
  refine e_move rfl rfl ?_
  refine e_move rfl rfl ?_
  refine e_mul_u rfl rfl rfl  ?_
  refine e_move rfl rfl ?_
  refine e_add_u rfl rfl rfl  ?_
  refine e_move rfl rfl ?_
  refine e_shr_u (s := 32) rfl rfl rfl (by omega) ?_
  refine e_add_u rfl rfl rfl  ?_
  refine e_assign rfl rfl ?_
  refine e_nil ?_
  refine e_seq ?_
  refine e_plain ?_
  refine e_move rfl rfl ?_
  refine e_move rfl rfl ?_
  refine e_mul_u rfl rfl rfl  ?_
  refine e_assign rfl rfl ?_
  refine e_nil ?_
  refine e_ret ?_
  rw [← mul64_hi x y hx hy]
  exact ⟨_, _, rfl, .tmp rfl, .tmp rfl⟩

set_option maxHeartbeats 400000 in
theorem dstep_fn (a b c d : Nat) (ha : a < 18446744073709551616) (hb : b < 18446744073709551616) (hc : c < 18446744073709551616) (hd : d < 18446744073709551616) : Fn Try.prog G 38 #[u a, u b, u c, u d] (.tuple #[u ((a * b + c + d) % 18446744073709551616), u ((a * b + c + d) / 18446744073709551616)]) := by
  have hp := prod_lt ha hb
  refine fn2 (n := 38) Try.func38 rfl rfl (by simp) (argE [u a, u b, u c, u d] 0) (argE_ok _) ?_
  refine e_seq ?_
  refine e_plain ?_
  refine e_assign rfl rfl ?_
  refine e_assign rfl rfl ?_
  refine e_nil ?_
  refine e_seq ?_
  refine e_plain ?_
  refine e_move rfl rfl ?_
  refine e_move rfl rfl ?_
  refine e_call rfl ent41 (mul64_fn _ _ (by omega) (by omega)) rfl rfl ?_
  refine e_move rfl rfl ?_
  refine e_extract rfl rfl rfl ?_
  refine e_extract rfl rfl rfl ?_
  refine e_assign rfl rfl ?_
  refine e_assign rfl rfl ?_
  refine e_nil ?_
  refine e_seq ?_
  refine e_plain ?_
  refine e_move rfl rfl ?_
  refine e_move rfl rfl ?_
  refine e_callE rfl (fun w => add64 _ _ 0 (by omega) w) rfl rfl ?_
  refine e_move rfl rfl ?_
  refine e_extract rfl rfl rfl ?_
  refine e_extract rfl rfl rfl ?_
  refine e_assign rfl rfl ?_
  refine e_assign rfl rfl ?_
  refine e_nil ?_
  refine e_seq ?_
  refine e_plain ?_
  refine e_move rfl rfl ?_
  refine e_move rfl rfl ?_
  refine e_add_u rfl rfl rfl  ?_
  refine e_assign rfl rfl ?_
  refine e_nil ?_
  refine e_seq ?_
  refine e_plain ?_
  refine e_move rfl rfl ?_
  refine e_move rfl rfl ?_
  refine e_callE rfl (fun w => add64 _ _ 0 (by omega) w) rfl rfl ?_
  refine e_move rfl rfl ?_
  refine e_extract rfl rfl rfl ?_
  refine e_extract rfl rfl rfl ?_
  refine e_assign rfl rfl ?_
  refine e_assign rfl rfl ?_
  refine e_nil ?_
  refine e_seq ?_
  refine e_plain ?_
  refine e_move rfl rfl ?_
  refine e_move rfl rfl ?_
  refine e_move rfl rfl ?_
  refine e_add_u rfl rfl rfl  ?_
  refine e_assign rfl rfl ?_
  refine e_assign rfl rfl ?_
  refine e_nil ?_
  refine e_ret ?_
  rw [← step_lo, ← step_hi _ _ _ hp hc hd]
  exact ⟨_, _, rfl, .tmp rfl, .tmp rfl⟩

set_option maxHeartbeats 400000 in
theorem dwide_fn (a b : Nat) (ha : a < 2 ^ 192) (hb : b < 2 ^ 128) : Fn Try.prog G 37 #[f3 a, f2 b] (.agg (arr .u64 5 (wd (a * b)))) := by
  refine fn1 (n := 42) Try.func37 rfl rfl (by simp) (argE [f3 a, f2 b] 0) (argE_ok _) ?_
  refine e_seq ?_
  refine e_plain ?_
  refine e_box 0 rfl rfl fun r1 => ?_
  refine e_box 1 rfl rfl fun r2 => ?_
  refine e_alloc 2 zer53 rfl fun r3 => ?_
  refine e_nil ?_
  refine e_seq ?_
  refine e_plain ?_
  refine e_alloc 3 zer53 rfl fun r4 => ?_
  refine e_nil ?_
  refine e_seq ?_
  refine e_seq ?_
  refine e_plain ?_
  refine e_move rfl rfl ?_
  refine e_nil ?_
  refine e_block ?_
  refine e_loopK [(2, _), (3, _), (4, _), (5, _)] [(0, _), (1, _), (2, _)] (fun kk E m => ∃ (k : Nat) (s : Nat → Nat), kk = 3 - k ∧ E = [(9, ii k)] ∧ m = [(3, some ⟨r4, arr .u64 5 s, 53⟩)] ∧ (k ≤ 3) ∧ (∀ t, t < 5 → s t = wd (a % 2 ^ (64 * k) * b) t)) [(9, ii 0)] [(3, some ⟨r4, arr .u64 5 (fun _ => 0), 53⟩)] (3 - 0) ⟨rfl, rfl, rfl, rfl, rfl, trivial⟩ ⟨rfl, rfl, rfl, rfl, trivial⟩ ⟨0, fun _ => 0, rfl, rfl, rfl, by omega, fun t _ => by simp [Nat.mod_one, wd]⟩ ?_
  rintro kk E m ⟨k, s, rfl, rfl, rfl, hf0_0, hf0_1⟩
  simp only [catE, catL]
  refine e_seq ?_
  refine e_plain ?_
  refine e_lt rfl rfl rfl ?_
  refine e_nil ?_
  refine e_seq ?_
  refine e_cond rfl ?_ ?_
  · intro hc0
    have hc0 : k < 3 := by have := of_decide_eq_true hc0; omega
    refine e_skip ?_
    refine e_seq ?_
    refine e_block ?_
    refine e_seq ?_
    refine e_plain ?_
    refine e_move rfl rfl ?_
    refine e_assign rfl rfl ?_
    refine e_nil ?_
    refine e_seq ?_
    refine e_plain ?_
    refine e_assign rfl rfl ?_
    refine e_nil ?_
    refine e_seq ?_
    refine e_seq ?_
    refine e_plain ?_
    refine e_move rfl rfl ?_
    refine e_nil ?_
    refine e_block ?_
    refine e_loopK [(2, _), (3, _), (4, _), (5, _), (6, _), (9, _)] [(0, _), (1, _), (2, _)] (fun kk E m => ∃ (j : Nat) (s2 : Nat → Nat), kk = 2 - j ∧ E = [(7, u (wO a b k j)), (12, ii j)] ∧ m = [(3, some ⟨r4, arr .u64 5 s2, 53⟩)] ∧ (j ≤ 2) ∧ (∀ t, t < k + j → s2 t = wd (wS a b k j) t) ∧ (∀ t, k + j ≤ t → t < 5 → s2 t = wd (a % 2 ^ (64 * k) * b) t)) [(7, u (wO a b k 0)), (12, ii 0)] [(3, some ⟨r4, arr .u64 5 s, 53⟩)] (2 - 0) ⟨by rw [wO_zero]; rfl, rfl, rfl, rfl, rfl, rfl, rfl, rfl, trivial⟩ ⟨rfl, rfl, rfl, rfl, trivial⟩ ⟨0, s, rfl, rfl, rfl, by omega, fun t ht => (hf0_1 t (by omega)).trans (wS_zero a b k t (by omega)).symm, fun t _ ht => hf0_1 t ht⟩ ?_
    rintro kk E m ⟨j, s2, rfl, rfl, rfl, hf1_0, hf1_1, hf1_2⟩
    simp only [catE, catL]
    have ha1 := wd_lt a k
    have hb1 := wd_lt b j
    have ho1 := wO_lt a b k j (by omega)
    have hs2 : j < 2 → s2 (k + j) = wd (a % 2 ^ (64 * k) * b) (k + j) := fun h => hf1_2 (k + j) (by omega) (by omega)
    refine e_seq ?_
    refine e_plain ?_
    refine e_lt rfl rfl rfl ?_
    refine e_nil ?_
    refine e_seq ?_
    refine e_cond rfl ?_ ?_
    · intro hc1
      have hc1 : j < 2 := by have := of_decide_eq_true hc1; omega
      refine e_skip ?_
      refine e_seq ?_
      refine e_block ?_
      refine e_seq ?_
      refine e_plain ?_
      refine e_move rfl rfl ?_
      refine e_assign rfl rfl ?_
      refine e_nil ?_
      refine e_draw mixed (by kernel_rfl) ?_
      refine e_move rfl rfl ?_
      refine e_move rfl rfl ?_
      refine e_add_i rfl rfl rfl (by omega) ?_
      refine e_move rfl rfl ?_
      refine e_index0 und61 siz23 rfl rfl (by omega) rfl ?_
      refine e_load1 (i := 0) und23 rfl rfl rfl (arr_get (by omega)) rfl ⟨[], trivial⟩ ?_
      refine e_move rfl rfl ?_
      refine e_index0 und24 siz23 rfl rfl (by omega) rfl ?_
      refine e_load1 (i := 1) und23 rfl rfl rfl (arr_get (by omega)) rfl ⟨[], trivial⟩ ?_
      refine e_move rfl rfl ?_
      refine e_move rfl rfl ?_
      refine e_add_i rfl rfl rfl (by omega) ?_
      refine e_index0 und53 siz23 rfl rfl (by omega) rfl ?_
      refine e_load1 (i := 3) und23 rfl rfl rfl (arr_get (by omega)) rfl ⟨[], trivial⟩ ?_
      refine e_move rfl rfl ?_
      have hs3 := wd_lt (a % 2 ^ (64 * k) * b) (k + j); have hs4 := hs2 hc1
      refine e_call rfl ent38 (dstep_fn _ _ _ _ (by omega) (by omega) (by omega) (by omega)) rfl rfl ?_
      refine e_move rfl rfl ?_
      refine e_extract rfl rfl rfl ?_
      refine e_extract rfl rfl rfl ?_
      refine e_index0 und53 siz23 rfl rfl (by omega) rfl ?_
      refine e_storeN (i := 3) siz23 rfl rfl rfl (by omega) (.inl rfl) ?_
      refine e_assign rfl rfl ?_
      refine e_nil ?_
      refine e_plain ?_
      refine e_add_i (q := 1) rfl rfl rfl (by omega) ?_
      refine e_move rfl rfl ?_
      refine e_nil ?_
      refine ⟨_, [(7, u (wO a b k (j + 1))), (12, ii (j + 1))], [(3, some ⟨r4, arr .u64 5 (upd s2 (k + j) _), 53⟩)], ?_, ⟨by rw [← wide_hi, ← hs2 hc1]; rfl, rfl, rfl, rfl, rfl, rfl, rfl, rfl, trivial⟩, ⟨rfl, rfl, rfl, rfl, trivial⟩, j + 1, upd s2 (k + j) _, rfl, rfl, rfl, by omega, by rw [hs2 hc1]; exact inner_low hf1_1, fun t h1 h2 => by rw [← hf1_2 t (by omega) h2]; unfold upd; rw [if_neg (by omega)]⟩
      omega
    · intro hc1
      have hc1 := of_decide_eq_false hc1
      have hz1 : j = 2 := by omega
      subst hz1
      refine e_exit ?_
      refine e_plain ?_
      refine e_move rfl rfl ?_
      refine e_add_i (q := 2) rfl rfl rfl (by omega) ?_
      refine e_move rfl rfl ?_
      refine e_index0 und53 siz23 rfl rfl (by omega) rfl ?_
      refine e_storeN (i := 3) siz23 rfl rfl rfl (by omega) (.inl rfl) ?_
      refine e_nil ?_
      refine e_plain ?_
      refine e_add_i (q := 1) rfl rfl rfl (by omega) ?_
      refine e_move rfl rfl ?_
      refine e_nil ?_
      refine ⟨_, [(9, ii (k + 1))], [(3, some ⟨r4, arr .u64 5 (upd s2 (k + 2) _), 53⟩)], ?_, ⟨rfl, rfl, rfl, rfl, rfl, trivial⟩, ⟨rfl, rfl, rfl, rfl, trivial⟩, k + 1, upd s2 (k + 2) _, rfl, rfl, rfl, by omega, outer_row2 hb hf1_1 hf1_2⟩
      omega
  · intro hc0
    have hc0 := of_decide_eq_false hc0
    have hz0 : k = 3 := by omega
    subst hz0
    refine e_exit ?_
    refine e_seq ?_
    refine e_plain ?_
    refine e_loadA (i := 3) und53 rfl siz53 rfl rfl (arr_size _ _ _) rfl ⟨[], trivial⟩ ?_
    refine e_storeA (i := 2) siz53 rfl rfl (arr_size _ _ _) arr_one rfl (arr_sz _ _ _ _ _) (.inl rfl) ?_
    refine e_nil ?_
    refine e_ret ?_
    rw [Nat.mod_eq_of_lt (show a < 2 ^ (64 * 3) from ha)] at hf0_1
    rw [← arr_congr hf0_1]
    exact ⟨_, rfl, .cell (i := 2) rfl rfl und53 rfl siz53 (arr_size _ _ _)⟩

end Go.Proofs.Ytmnmhmpklknleaa
