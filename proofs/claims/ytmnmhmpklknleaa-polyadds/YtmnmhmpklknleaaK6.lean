import Derived.Test.YtmnmhmpklknleaaK5
import Derived.Test.YtmnmhmpklknleaaK3

/-
  Walks, written by a program of ours off the loaded functions.
-/
namespace Go.Proofs.Ytmnmhmpklknleaa
open Go Go.RowKit


theorem ent31 : enters Try.prog 31 = true := by kernel_rfl
theorem ent32 : enters Try.prog 32 = true := by kernel_rfl
theorem ent38 : enters Try.prog 38 = true := by kernel_rfl
theorem ent41 : enters Try.prog 41 = true := by kernel_rfl
theorem siz53 : (Try.prog.info? 53).map (·.size) = some 5 := by kernel_rfl
theorem siz61 : (Try.prog.info? 61).map (·.size) = some 3 := by kernel_rfl
theorem und53 : Try.prog.underlying 53 = some (.array 5 23) := by kernel_rfl
theorem und61 : Try.prog.underlying 61 = some (.array 3 23) := by kernel_rfl
theorem zer53 : (Try.prog.info? 53).bind (·.zero) = some (.agg (arr .u64 5 fun _ => 0)) := by kernel_rfl
theorem zer61 : (Try.prog.info? 61).bind (·.zero) = some (.agg (arr .u64 3 fun _ => 0)) := by kernel_rfl

variable {G : Mem}

set_option maxHeartbeats 400000 in
theorem dprime_fn : Fn Try.prog G 32 #[] (f3 QQ) := by
  refine fn1 (n := 2) Try.func32 rfl rfl (by simp) (argE [] 0) (argE_ok _) ?_
  refine e_seq ?_
  refine e_plain ?_
  refine e_alloc 0 zer61 rfl fun r1 => ?_
  refine e_nil ?_
  refine e_seq ?_
  refine e_plain ?_
  refine e_build (arr .u64 3 (wd QQ)) zer61 und61 siz23 rfl (by kernel_rfl) rfl ?_
  refine e_storeA (i := 0) siz61 rfl rfl (arr_size _ _ _) arr_one rfl (arr_sz _ _ _ _ _) (.inl rfl) ?_
  refine e_nil ?_
  refine e_ret ?_
  exact ⟨_, rfl, .cell (i := 0) rfl rfl und61 rfl siz61 (arr_size _ _ _)⟩

set_option maxHeartbeats 400000 in
theorem dpair_fn (f : Nat → Nat) (hf : ∀ j, j < 16 → f j < 256) : Fn Try.prog G 20 #[.agg (arr .u8 16 f)] (f2 (vb f 16)) := by
  refine fn1 (n := 25) Try.func20 rfl rfl (by simp) (argE [.agg (arr .u8 16 f)] 0) (argE_ok _) ?_
  refine e_seq ?_
  refine e_plain ?_
  refine e_box 0 rfl rfl fun r1 => ?_
  refine e_alloc 1 zer24 rfl fun r2 => ?_
  refine e_nil ?_
  refine e_seq ?_
  refine e_plain ?_
  refine e_alloc 2 zer24 rfl fun r3 => ?_
  refine e_nil ?_
  refine e_seq ?_
  refine e_seq ?_
  refine e_plain ?_
  refine e_loadA (i := 0) und26 rfl siz26 rfl rfl (arr_size _ _ _) rfl ⟨[], trivial⟩ ?_
  refine e_move rfl rfl ?_
  refine e_nil ?_
  refine e_block ?_
  refine e_loopK [(2, _), (3, _), (6, _)] [(0, _), (1, _)] (fun kk E m => ∃ (k : Nat) (s : Nat → Nat), kk = 16 - k ∧ E = [(7, ii k)] ∧ m = [(2, some ⟨r3, arr .u64 2 s, 24⟩)] ∧ (k ≤ 16) ∧ (∀ j, j < 4 → s j = wd (vb f k) j)) [(7, ii 0)] [(2, some ⟨r3, arr .u64 2 (fun _ => 0), 24⟩)] (16 - 0) ⟨rfl, rfl, rfl, rfl, trivial⟩ ⟨rfl, rfl, rfl, trivial⟩ ⟨0, fun _ => 0, rfl, rfl, rfl, by omega, fun j _ => by simp [vb, wd]⟩ ?_
  rintro kk E m ⟨k, s, rfl, rfl, rfl, hf0_0, hf0_1⟩
  simp only [catE, catL]
  refine e_seq ?_
  refine e_plain ?_
  refine e_lt rfl rfl rfl ?_
  refine e_nil ?_
  refine e_seq ?_
  refine e_cond rfl ?_ ?_
  · intro hc0
    have hc0 : k < 16 := by have := of_decide_eq_true hc0; omega
    refine e_skip ?_
    refine e_seq ?_
    refine e_block ?_
    refine e_seq ?_
    refine e_plain ?_
    refine e_move rfl rfl ?_
    refine e_idx und26 und5 siz5 rfl rfl (by omega) rfl ?_
    refine e_assign rfl rfl ?_
    refine e_assign rfl rfl ?_
    refine e_nil ?_
    refine e_draw mixed (by kernel_rfl) ?_
    refine e_move rfl rfl ?_
    refine e_quo_i (q := 8) rfl rfl rfl (by omega) (by omega) ?_
    refine e_index0 und24 siz23 rfl rfl (by omega) rfl ?_
    refine e_load1 (i := 2) und23 rfl rfl rfl (arr_get (by omega)) rfl ⟨[], trivial⟩ ?_
    refine e_move rfl rfl ?_
    refine e_conv_u und5 und23 rfl rfl rfl ?_
    refine e_move rfl rfl ?_
    refine e_rem_i (q := 8) rfl rfl rfl (by omega) ?_
    refine e_mul_i (q := 8) rfl rfl rfl (by omega) ?_
    refine e_shl_u rfl rfl rfl (by omega) ?_
    refine e_or_u rfl rfl rfl  ?_
    refine e_index0 und24 siz23 rfl rfl (by omega) rfl ?_
    refine e_storeN (i := 2) siz23 rfl rfl rfl (by omega) (.inl rfl) ?_
    refine e_nil ?_
    refine e_plain ?_
    refine e_add_i (q := 1) rfl rfl rfl (by omega) ?_
    refine e_move rfl rfl ?_
    refine e_nil ?_
    refine ⟨_, [(7, ii (k + 1))], [(2, some ⟨r3, arr .u64 2 (upd s (k / 8) _), 24⟩)], ?_, ⟨rfl, rfl, rfl, rfl, trivial⟩, ⟨rfl, rfl, rfl, trivial⟩, k + 1, upd s (k / 8) _, rfl, rfl, rfl, by omega, pair_step (by omega) hf hf0_1⟩
    omega
  · intro hc0
    have hc0 := of_decide_eq_false hc0
    have hz0 : k = 16 := by omega
    subst hz0
    refine e_exit ?_
    refine e_seq ?_
    refine e_plain ?_
    refine e_loadA (i := 2) und24 rfl siz24 rfl rfl (arr_size _ _ _) rfl ⟨[], trivial⟩ ?_
    refine e_storeA (i := 1) siz24 rfl rfl (arr_size _ _ _) arr_one rfl (arr_sz _ _ _ _ _) (.inl rfl) ?_
    refine e_nil ?_
    refine e_ret ?_
    rw [f2_of (fun j hj => hf0_1 j (by omega))]
    exact ⟨_, rfl, .cell (i := 1) rfl rfl und24 rfl siz24 (arr_size _ _ _)⟩

set_option maxHeartbeats 400000 in
theorem dclamped_fn (r : Nat → Nat) : Fn Try.prog G 21 #[.agg (arr .u64 2 r)] (.agg (arr .u64 2 (clf r))) := by
  refine fn1 (n := 10) Try.func21 rfl rfl (by simp) (argE [.agg (arr .u64 2 r)] 0) (argE_ok _) ?_
  refine e_seq ?_
  refine e_plain ?_
  refine e_box 0 rfl rfl fun r1 => ?_
  refine e_alloc 1 zer24 rfl fun r2 => ?_
  refine e_nil ?_
  refine e_seq ?_
  refine e_plain ?_
  refine e_index0 (j := 0) und24 siz23 rfl rfl (by omega) rfl ?_
  refine e_load1 (i := 0) und23 rfl rfl rfl (arr_get (by omega)) rfl ⟨[], trivial⟩ ?_
  refine e_and_u (q := 1152921487695413247) rfl rfl rfl  ?_
  refine e_index0 (j := 1) und24 siz23 rfl rfl (by omega) rfl ?_
  refine e_load1 (i := 0) und23 rfl rfl rfl (arr_get (by omega)) rfl ⟨[], trivial⟩ ?_
  refine e_and_u (q := 1152921487695413244) rfl rfl rfl  ?_
  refine e_build (arr .u64 2 (clf r)) zer24 und24 siz23 rfl rfl rfl ?_
  refine e_storeA (i := 1) siz24 rfl rfl (arr_size _ _ _) arr_one rfl (arr_sz _ _ _ _ _) (.inl rfl) ?_
  refine e_nil ?_
  refine e_ret ?_
  exact ⟨_, rfl, .cell (i := 1) rfl rfl und24 rfl siz24 (arr_size _ _ _)⟩

set_option maxHeartbeats 400000 in
theorem dplus_fn (a b : Nat) : Fn Try.prog G 34 #[f3 a, f3 b] (f3 (a + b)) := by
  refine fn1 (n := 26) Try.func34 rfl rfl (by simp) (argE [f3 a, f3 b] 0) (argE_ok _) ?_
  refine e_seq ?_
  refine e_plain ?_
  refine e_box 0 rfl rfl fun r1 => ?_
  refine e_box 1 rfl rfl fun r2 => ?_
  refine e_alloc 2 zer61 rfl fun r3 => ?_
  refine e_nil ?_
  refine e_seq ?_
  refine e_plain ?_
  refine e_alloc 3 zer61 rfl fun r4 => ?_
  refine e_nil ?_
  refine e_seq ?_
  refine e_plain ?_
  refine e_assign rfl rfl ?_
  refine e_nil ?_
  refine e_seq ?_
  refine e_seq ?_
  refine e_plain ?_
  refine e_move rfl rfl ?_
  refine e_nil ?_
  refine e_block ?_
  refine e_loopK [(2, _), (3, _), (4, _), (5, _)] [(0, _), (1, _), (2, _)] (fun kk E m => ∃ (k : Nat) (s : Nat → Nat), kk = 3 - k ∧ E = [(6, u (car a b k)), (8, ii k)] ∧ m = [(3, some ⟨r4, arr .u64 3 s, 61⟩)] ∧ (k ≤ 3) ∧ (∀ j, j < k → s j = wd (a + b) j)) [(6, u (car a b 0)), (8, ii 0)] [(3, some ⟨r4, arr .u64 3 (fun _ => 0), 61⟩)] (3 - 0) ⟨by rw [car_zero]; rfl, rfl, rfl, rfl, rfl, rfl, trivial⟩ ⟨rfl, rfl, rfl, rfl, trivial⟩ ⟨0, fun _ => 0, rfl, rfl, rfl, by omega, fun j hj => absurd hj (Nat.not_lt_zero j)⟩ ?_
  rintro kk E m ⟨k, s, rfl, rfl, rfl, hf0_0, hf0_1⟩
  simp only [catE, catL]
  have hcl := car_le a b k
  refine e_seq ?_
  refine e_plain ?_
  refine e_lt rfl rfl rfl ?_
  refine e_nil ?_
  refine e_seq ?_
  refine e_cond rfl ?_ ?_
  · intro hc0
    have hc0 : k < 3 := by have := of_decide_eq_true hc0; omega
    refine e_skip ?_
    refine e_seq ?_
    refine e_block ?_
    refine e_seq ?_
    refine e_plain ?_
    refine e_move rfl rfl ?_
    refine e_assign rfl rfl ?_
    refine e_nil ?_
    refine e_drawR ⟨[r4], 1, []⟩ mixed (by kernel_rfl) ?_
    refine e_move rfl rfl ?_
    refine e_move rfl rfl ?_
    refine e_index0 und61 siz23 rfl rfl (by omega) rfl ?_
    refine e_load1 (i := 0) und23 rfl rfl rfl (arr_get (by omega)) rfl ⟨[3], rfl, rfl, trivial⟩ ?_
    refine e_move rfl rfl ?_
    refine e_index0 und61 siz23 rfl rfl (by omega) rfl ?_
    refine e_load1 (i := 1) und23 rfl rfl rfl (arr_get (by omega)) rfl ⟨[3], rfl, rfl, trivial⟩ ?_
    refine e_move rfl rfl ?_
    refine e_callE rfl (fun w => add64 _ _ _ (by omega) w) rfl rfl ?_
    refine e_move rfl rfl ?_
    refine e_extract rfl rfl rfl ?_
    refine e_extract rfl rfl rfl ?_
    refine e_index0 und61 siz23 rfl rfl (by omega) rfl ?_
    refine e_storeN (i := 3) siz23 rfl rfl rfl (by omega) (.inr (by simp)) ?_
    refine e_assign rfl rfl ?_
    refine e_nil ?_
    refine e_plain ?_
    refine e_add_i (q := 1) rfl rfl rfl (by omega) ?_
    refine e_move rfl rfl ?_
    refine e_nil ?_
    refine ⟨_, [(6, u (car a b (k + 1))), (8, ii (k + 1))], [(3, some ⟨r4, arr .u64 3 (upd s k _), 61⟩)], ?_, ⟨by rw [← car_next]; rfl, rfl, rfl, rfl, rfl, rfl, trivial⟩, ⟨rfl, rfl, rfl, rfl, trivial⟩, k + 1, upd s k _, rfl, rfl, rfl, by omega, upd_lt hf0_1 (car_word a b k)⟩
    omega
  · intro hc0
    have hc0 := of_decide_eq_false hc0
    have hz0 : k = 3 := by omega
    subst hz0
    refine e_exit ?_
    refine e_seq ?_
    refine e_plain ?_
    refine e_loadA (i := 3) und61 rfl siz61 rfl rfl (arr_size _ _ _) rfl ⟨[], trivial⟩ ?_
    refine e_storeA (i := 2) siz61 rfl rfl (arr_size _ _ _) arr_one rfl (arr_sz _ _ _ _ _) (.inl rfl) ?_
    refine e_nil ?_
    refine e_ret ?_
    rw [f3_of hf0_1]
    exact ⟨_, rfl, .cell (i := 2) rfl rfl und61 rfl siz61 (arr_size _ _ _)⟩

set_option maxHeartbeats 400000 in
theorem dminus_fn (a b : Nat) (ha : a < 2 ^ 192) (hb : b < 2 ^ 192) : Fn Try.prog G 31 #[f3 a, f3 b] (.tuple #[f3 (a + 2 ^ 256 - b), u (if a < b then 1 else 0)]) := by
  have hfin : bor a b 3 = if a < b then 1 else 0 := by
    unfold bor
    rw [Nat.mod_eq_of_lt (show a < 2 ^ (64 * 3) from ha), Nat.mod_eq_of_lt (show b < 2 ^ (64 * 3) from hb)]
  refine fn2 (n := 28) Try.func31 rfl rfl (by simp) (argE [f3 a, f3 b] 0) (argE_ok _) ?_
  refine e_seq ?_
  refine e_plain ?_
  refine e_box 0 rfl rfl fun r1 => ?_
  refine e_box 1 rfl rfl fun r2 => ?_
  refine e_alloc 2 zer61 rfl fun r3 => ?_
  refine e_assign rfl rfl ?_
  refine e_nil ?_
  refine e_seq ?_
  refine e_plain ?_
  refine e_alloc 3 zer61 rfl fun r4 => ?_
  refine e_nil ?_
  refine e_seq ?_
  refine e_plain ?_
  refine e_assign rfl rfl ?_
  refine e_nil ?_
  refine e_seq ?_
  refine e_seq ?_
  refine e_plain ?_
  refine e_move rfl rfl ?_
  refine e_nil ?_
  refine e_block ?_
  refine e_loopK [(2, _), (3, _), (4, _), (5, _), (6, _)] [(0, _), (1, _), (2, _)] (fun kk E m => ∃ (k : Nat) (s : Nat → Nat), kk = 3 - k ∧ E = [(7, u (bor a b k)), (9, ii k)] ∧ m = [(3, some ⟨r4, arr .u64 3 s, 61⟩)] ∧ (k ≤ 3) ∧ (∀ j, j < k → s j = wd (a + 2 ^ 256 - b) j)) [(7, u (bor a b 0)), (9, ii 0)] [(3, some ⟨r4, arr .u64 3 (fun _ => 0), 61⟩)] (3 - 0) ⟨by rw [bor_zero]; rfl, rfl, rfl, rfl, rfl, rfl, rfl, trivial⟩ ⟨rfl, rfl, rfl, rfl, trivial⟩ ⟨0, fun _ => 0, rfl, rfl, rfl, by omega, fun j hj => absurd hj (Nat.not_lt_zero j)⟩ ?_
  rintro kk E m ⟨k, s, rfl, rfl, rfl, hf0_0, hf0_1⟩
  simp only [catE, catL]
  have hcl := bor_le a b k
  have hwl := wd_lt b k
  refine e_seq ?_
  refine e_plain ?_
  refine e_lt rfl rfl rfl ?_
  refine e_nil ?_
  refine e_seq ?_
  refine e_cond rfl ?_ ?_
  · intro hc0
    have hc0 : k < 3 := by have := of_decide_eq_true hc0; omega
    refine e_skip ?_
    refine e_seq ?_
    refine e_block ?_
    refine e_seq ?_
    refine e_plain ?_
    refine e_move rfl rfl ?_
    refine e_assign rfl rfl ?_
    refine e_nil ?_
    refine e_drawR ⟨[r4], 1, []⟩ mixed (by kernel_rfl) ?_
    refine e_move rfl rfl ?_
    refine e_move rfl rfl ?_
    refine e_index0 und61 siz23 rfl rfl (by omega) rfl ?_
    refine e_load1 (i := 0) und23 rfl rfl rfl (arr_get (by omega)) rfl ⟨[3], rfl, rfl, trivial⟩ ?_
    refine e_move rfl rfl ?_
    refine e_index0 und61 siz23 rfl rfl (by omega) rfl ?_
    refine e_load1 (i := 1) und23 rfl rfl rfl (arr_get (by omega)) rfl ⟨[3], rfl, rfl, trivial⟩ ?_
    refine e_move rfl rfl ?_
    refine e_callE rfl (fun w => sub64 _ _ _ (by omega) (by omega) w) rfl rfl ?_
    refine e_move rfl rfl ?_
    refine e_extract rfl rfl rfl ?_
    refine e_extract rfl rfl rfl ?_
    refine e_index0 und61 siz23 rfl rfl (by omega) rfl ?_
    refine e_storeN (i := 3) siz23 rfl rfl rfl (by omega) (.inr (by simp)) ?_
    refine e_assign rfl rfl ?_
    refine e_nil ?_
    refine e_plain ?_
    refine e_add_i (q := 1) rfl rfl rfl (by omega) ?_
    refine e_move rfl rfl ?_
    refine e_nil ?_
    refine ⟨_, [(7, u (bor a b (k + 1))), (9, ii (k + 1))], [(3, some ⟨r4, arr .u64 3 (upd s k _), 61⟩)], ?_, ⟨by rw [← bor_next]; rfl, rfl, rfl, rfl, rfl, rfl, rfl, trivial⟩, ⟨rfl, rfl, rfl, rfl, trivial⟩, k + 1, upd s k _, rfl, rfl, rfl, by omega, upd_lt hf0_1 (bor_word a b k (by omega) (by omega))⟩
    omega
  · intro hc0
    have hc0 := of_decide_eq_false hc0
    have hz0 : k = 3 := by omega
    subst hz0
    refine e_exit ?_
    refine e_seq ?_
    refine e_plain ?_
    refine e_loadA (i := 3) und61 rfl siz61 rfl rfl (arr_size _ _ _) rfl ⟨[], trivial⟩ ?_
    refine e_move rfl rfl ?_
    refine e_storeA (i := 2) siz61 rfl rfl (arr_size _ _ _) arr_one rfl (arr_sz _ _ _ _ _) (.inl rfl) ?_
    refine e_assign rfl rfl ?_
    refine e_nil ?_
    refine e_ret ?_
    rw [← hfin, f3_of hf0_1]
    exact ⟨_, _, rfl, .cell (i := 2) rfl rfl und61 rfl siz61 (arr_size _ _ _), .tmp rfl⟩

set_option maxHeartbeats 400000 in
theorem dbelow_fn (a : Nat) (ha : a < 2 ^ 192) : Fn Try.prog G 22 #[f3 a] (.bool (decide (a < QQ))) := by
  have hQQ := QQ_eq
  refine fn1 (n := 13) Try.func22 rfl rfl (by simp) (argE [f3 a] 0) (argE_ok _) ?_
  refine e_seq ?_
  refine e_plain ?_
  refine e_box 0 rfl rfl fun r1 => ?_
  refine e_assign rfl rfl ?_
  refine e_nil ?_
  refine e_seq ?_
  refine e_draw mixed (by kernel_rfl) ?_
  refine e_loadA (i := 0) und61 rfl siz61 rfl rfl (arr_size _ _ _) rfl ⟨[], trivial⟩ ?_
  refine e_call rfl ent32 dprime_fn rfl rfl ?_
  refine e_call rfl ent31 (dminus_fn _ _ (by omega) (by omega)) rfl rfl ?_
  refine e_move rfl rfl ?_
  refine e_extract rfl rfl rfl ?_
  refine e_extract rfl rfl rfl ?_
  refine e_alloc 1 zer61 rfl fun r2 => ?_
  refine e_storeA (i := 1) siz61 rfl rfl (arr_size _ _ _) arr_one rfl (arr_sz _ _ _ _ _) (.inl rfl) ?_
  refine e_assign rfl rfl ?_
  refine e_nil ?_
  refine e_seq ?_
  refine e_plain ?_
  refine e_move rfl rfl ?_
  refine e_eq rfl rfl rfl ?_
  refine e_as (lt_bool _ _) ?_
  refine e_assign rfl rfl ?_
  refine e_nil ?_
  refine e_ret ?_
  exact ⟨_, rfl, .tmp rfl⟩

set_option maxHeartbeats 400000 in
theorem dtimes_fn (a n : Nat) (hn : n ≤ 1) : Fn Try.prog G 39 #[f3 a, u n] (f3 (a * n)) := by
  refine fn1 (n := 18) Try.func39 rfl rfl (by simp) (argE [f3 a, u n] 0) (argE_ok _) ?_
  refine e_seq ?_
  refine e_plain ?_
  refine e_box 0 rfl rfl fun r1 => ?_
  refine e_alloc 1 zer61 rfl fun r2 => ?_
  refine e_nil ?_
  refine e_seq ?_
  refine e_seq ?_
  refine e_plain ?_
  refine e_move rfl rfl ?_
  refine e_nil ?_
  refine e_block ?_
  refine e_loopK [(1, _), (2, _), (4, _)] [(1, _)] (fun kk E m => ∃ (k : Nat) (s : Nat → Nat), kk = 3 - k ∧ E = [(6, ii k)] ∧ m = [(0, some ⟨r1, arr .u64 3 s, 61⟩)] ∧ (k ≤ 3) ∧ (∀ j, j < k → s j = wd (a * n) j) ∧ (∀ j, k ≤ j → s j = wd a j)) [(6, ii 0)] [(0, some ⟨r1, arr .u64 3 (wd a), 61⟩)] (3 - 0) ⟨rfl, rfl, rfl, rfl, trivial⟩ ⟨rfl, rfl, trivial⟩ ⟨0, wd a, rfl, rfl, rfl, by omega, fun j hj => absurd hj (Nat.not_lt_zero j), fun j _ => rfl⟩ ?_
  rintro kk E m ⟨k, s, rfl, rfl, rfl, hf0_0, hf0_1, hf0_2⟩
  simp only [catE, catL]
  refine e_seq ?_
  refine e_plain ?_
  refine e_lt rfl rfl rfl ?_
  refine e_nil ?_
  refine e_seq ?_
  refine e_cond rfl ?_ ?_
  · intro hc0
    have hc0 : k < 3 := by have := of_decide_eq_true hc0; omega
    refine e_skip ?_
    refine e_seq ?_
    refine e_block ?_
    refine e_seq ?_
    refine e_plain ?_
    refine e_move rfl rfl ?_
    refine e_assign rfl rfl ?_
    refine e_nil ?_
    refine e_plain ?_
    refine e_move rfl rfl ?_
    refine e_index0 und61 siz23 rfl rfl (by omega) rfl ?_
    refine e_load1 (i := 0) und23 rfl rfl rfl (arr_get (by omega)) rfl ⟨[], trivial⟩ ?_
    refine e_move rfl rfl ?_
    refine e_neg_u rfl rfl (by omega) ?_
    refine e_and_u rfl rfl rfl  ?_
    refine e_index0 und61 siz23 rfl rfl (by omega) rfl ?_
    refine e_storeN (i := 0) siz23 rfl rfl rfl (by omega) (.inl rfl) ?_
    refine e_nil ?_
    refine e_plain ?_
    refine e_add_i (q := 1) rfl rfl rfl (by omega) ?_
    refine e_move rfl rfl ?_
    refine e_nil ?_
    refine ⟨_, [(6, ii (k + 1))], [(0, some ⟨r1, arr .u64 3 (upd s k _), 61⟩)], ?_, ⟨rfl, rfl, rfl, rfl, trivial⟩, ⟨rfl, rfl, trivial⟩, k + 1, upd s k _, rfl, rfl, rfl, by omega, upd_lt hf0_1 (by rw [hf0_2 k (Nat.le_refl k)]; exact wd_mul01 a n k hn), upd_ge hf0_2⟩
    omega
  · intro hc0
    have hc0 := of_decide_eq_false hc0
    have hz0 : k = 3 := by omega
    subst hz0
    refine e_exit ?_
    refine e_seq ?_
    refine e_plain ?_
    refine e_loadA (i := 0) und61 rfl siz61 rfl rfl (arr_size _ _ _) rfl ⟨[], trivial⟩ ?_
    refine e_storeA (i := 1) siz61 rfl rfl (arr_size _ _ _) arr_one rfl (arr_sz _ _ _ _ _) (.inl rfl) ?_
    refine e_nil ?_
    refine e_ret ?_
    rw [f3_of hf0_1]
    exact ⟨_, rfl, .cell (i := 1) rfl rfl und61 rfl siz61 (arr_size _ _ _)⟩

set_option maxHeartbeats 400000 in
theorem mul64_fn (x y : Nat) (hx : x < 18446744073709551616) (hy : y < 18446744073709551616) : Fn Try.prog G 41 #[u x, u y] (.tuple #[u (x * y / 18446744073709551616), u (x * y % 18446744073709551616)]) := by
  refine fn2 (n := 51) Try.func41 rfl rfl (by simp) (argE [u x, u y] 0) (argE_ok _) ?_
  refine e_seq ?_
  refine e_plain ?_
  refine e_assign rfl rfl ?_
  refine e_assign rfl rfl ?_
  refine e_nil ?_
  refine e_seq ?_
  refine e_plain ?_
  refine e_move rfl rfl ?_
  refine e_and_u (q := 4294967295) rfl rfl rfl  ?_
  refine e_assign rfl rfl ?_
  refine e_nil ?_
  refine e_seq ?_
  refine e_plain ?_
  refine e_move rfl rfl ?_
  refine e_shr_u (s := 32) rfl rfl rfl (by omega) ?_
  refine e_assign rfl rfl ?_
  refine e_nil ?_
  refine e_seq ?_
  refine e_plain ?_
  refine e_move rfl rfl ?_
  refine e_and_u (q := 4294967295) rfl rfl rfl  ?_
  refine e_assign rfl rfl ?_
  refine e_nil ?_
  refine e_seq ?_
  refine e_plain ?_
  refine e_move rfl rfl ?_
  refine e_shr_u (s := 32) rfl rfl rfl (by omega) ?_
  refine e_assign rfl rfl ?_
  refine e_nil ?_
  refine e_seq ?_
  refine e_plain ?_
  refine e_move rfl rfl ?_
  refine e_move rfl rfl ?_
  refine e_mul_u rfl rfl rfl  ?_
  refine e_assign rfl rfl ?_
  refine e_nil ?_
  refine e_seq ?_
  refine e_plain ?_
  refine e_move rfl rfl ?_
  refine e_move rfl rfl ?_
  refine e_mul_u rfl rfl rfl  ?_
  refine e_move rfl rfl ?_
  refine e_shr_u (s := 32) rfl rfl rfl (by omega) ?_
  refine e_add_u rfl rfl rfl  ?_
  refine e_assign rfl rfl ?_
  refine e_nil ?_
  refine e_seq ?_
  refine e_plain ?_
  refine e_move rfl rfl ?_
  refine e_and_u (q := 4294967295) rfl rfl rfl  ?_
  refine e_assign rfl rfl ?_
  refine e_nil ?_
  refine e_seq ?_
  refine e_plain ?_
  refine e_move rfl rfl ?_
  refine e_shr_u (s := 32) rfl rfl rfl (by omega) ?_
  refine e_assign rfl rfl ?_
  refine e_nil ?_
  refine e_seq ?_
  refine e_plain ?_
  refine e_move rfl rfl ?_
  refine e_move rfl rfl ?_
  refine e_move rfl rfl ?_
  refine e_mul_u rfl rfl rfl  ?_
  refine e_add_u rfl rfl rfl  ?_
  refine e_assign rfl rfl ?_
  refine e_nil ?_
  refine e_seq ?_
  refine e_plain ?_
  refine e_move rfl rfl ?_
  refine e_move rfl rfl ?_
  refine e_mul_u rfl rfl rfl  ?_
  refine e_move rfl rfl ?_
  refine e_add_u rfl rfl rfl  ?_
  refine e_move rfl rfl ?_
  refine e_shr_u (s := 32) rfl rfl rfl (by omega) ?_
  refine e_add_u rfl rfl rfl  ?_
  refine e_assign rfl rfl ?_
  refine e_nil ?_
  refine e_seq ?_
  refine e_plain ?_
  refine e_move rfl rfl ?_
  refine e_move rfl rfl ?_
  refine e_mul_u rfl rfl rfl  ?_
  refine e_assign rfl rfl ?_
  refine e_nil ?_
  refine e_ret ?_
  rw [← mul64_hi x y hx hy]
  exact ⟨_, _, rfl, .tmp rfl, .tmp rfl⟩

set_option maxHeartbeats 400000 in
theorem dstep_fn (a b c d : Nat) (ha : a < 18446744073709551616) (hb : b < 18446744073709551616) (hc : c < 18446744073709551616) (hd : d < 18446744073709551616) : Fn Try.prog G 38 #[u a, u b, u c, u d] (.tuple #[u ((a * b + c + d) % 18446744073709551616), u ((a * b + c + d) / 18446744073709551616)]) := by
  have hp := prod_lt ha hb
  refine fn2 (n := 38) Try.func38 rfl rfl (by simp) (argE [u a, u b, u c, u d] 0) (argE_ok _) ?_
  refine e_seq ?_
  refine e_plain ?_
  refine e_assign rfl rfl ?_
  refine e_assign rfl rfl ?_
  refine e_nil ?_
  refine e_seq ?_
  refine e_plain ?_
  refine e_move rfl rfl ?_
  refine e_move rfl rfl ?_
  refine e_call rfl ent41 (mul64_fn _ _ (by omega) (by omega)) rfl rfl ?_
  refine e_move rfl rfl ?_
  refine e_extract rfl rfl rfl ?_
  refine e_extract rfl rfl rfl ?_
  refine e_assign rfl rfl ?_
  refine e_assign rfl rfl ?_
  refine e_nil ?_
  refine e_seq ?_
  refine e_plain ?_
  refine e_move rfl rfl ?_
  refine e_move rfl rfl ?_
  refine e_callE rfl (fun w => add64 _ _ 0 (by omega) w) rfl rfl ?_
  refine e_move rfl rfl ?_
  refine e_extract rfl rfl rfl ?_
  refine e_extract rfl rfl rfl ?_
  refine e_assign rfl rfl ?_
  refine e_assign rfl rfl ?_
  refine e_nil ?_
  refine e_seq ?_
  refine e_plain ?_
  refine e_move rfl rfl ?_
  refine e_move rfl rfl ?_
  refine e_add_u rfl rfl rfl  ?_
  refine e_assign rfl rfl ?_
  refine e_nil ?_
  refine e_seq ?_
  refine e_plain ?_
  refine e_move rfl rfl ?_
  refine e_move rfl rfl ?_
  refine e_callE rfl (fun w => add64 _ _ 0 (by omega) w) rfl rfl ?_
  refine e_move rfl rfl ?_
  refine e_extract rfl rfl rfl ?_
  refine e_extract rfl rfl rfl ?_
  refine e_assign rfl rfl ?_
  refine e_assign rfl rfl ?_
  refine e_nil ?_
  refine e_seq ?_
  refine e_plain ?_
  refine e_move rfl rfl ?_
  refine e_move rfl rfl ?_
  refine e_move rfl rfl ?_
  refine e_add_u rfl rfl rfl  ?_
  refine e_assign rfl rfl ?_
  refine e_assign rfl rfl ?_
  refine e_nil ?_
  refine e_ret ?_
  rw [← step_lo, ← step_hi _ _ _ hp hc hd]
  exact ⟨_, _, rfl, .tmp rfl, .tmp rfl⟩

set_option maxHeartbeats 400000 in
theorem dwide_fn (a b : Nat) (ha : a < 2 ^ 192) (hb : b < 2 ^ 128) : Fn Try.prog G 37 #[f3 a, f2 b] (.agg (arr .u64 5 (wd (a * b)))) := by
  refine fn1 (n := 42) Try.func37 rfl rfl (by simp) (argE [f3 a, f2 b] 0) (argE_ok _) ?_
  refine e_seq ?_
  refine e_plain ?_
  refine e_box 0 rfl rfl fun r1 => ?_
  refine e_box 1 rfl rfl fun r2 => ?_
  refine e_alloc 2 zer53 rfl fun r3 => ?_
  refine e_nil ?_
  refine e_seq ?_
  refine e_plain ?_
  refine e_alloc 3 zer53 rfl fun r4 => ?_
  refine e_nil ?_
  refine e_seq ?_
  refine e_seq ?_
  refine e_plain ?_
  refine e_move rfl rfl ?_
  refine e_nil ?_
  refine e_block ?_
  refine e_loopK [(2, _), (3, _), (4, _), (5, _)] [(0, _), (1, _), (2, _)] (fun kk E m => ∃ (k : Nat) (s : Nat → Nat), kk = 3 - k ∧ E = [(9, ii k)] ∧ m = [(3, some ⟨r4, arr .u64 5 s, 53⟩)] ∧ (k ≤ 3) ∧ (∀ t, t < 5 → s t = wd (a % 2 ^ (64 * k) * b) t)) [(9, ii 0)] [(3, some ⟨r4, arr .u64 5 (fun _ => 0), 53⟩)] (3 - 0) ⟨rfl, rfl, rfl, rfl, rfl, trivial⟩ ⟨rfl, rfl, rfl, rfl, trivial⟩ ⟨0, fun _ => 0, rfl, rfl, rfl, by omega, fun t _ => by simp [Nat.mod_one, wd]⟩ ?_
  rintro kk E m ⟨k, s, rfl, rfl, rfl, hf0_0, hf0_1⟩
  simp only [catE, catL]
  refine e_seq ?_
  refine e_plain ?_
  refine e_lt rfl rfl rfl ?_
  refine e_nil ?_
  refine e_seq ?_
  refine e_cond rfl ?_ ?_
  · intro hc0
    have hc0 : k < 3 := by have := of_decide_eq_true hc0; omega
    refine e_skip ?_
    refine e_seq ?_
    refine e_block ?_
    refine e_seq ?_
    refine e_plain ?_
    refine e_move rfl rfl ?_
    refine e_assign rfl rfl ?_
    refine e_nil ?_
    refine e_seq ?_
    refine e_plain ?_
    refine e_assign rfl rfl ?_
    refine e_nil ?_
    refine e_seq ?_
    refine e_seq ?_
    refine e_plain ?_
    refine e_move rfl rfl ?_
    refine e_nil ?_
    refine e_block ?_
    refine e_loopK [(2, _), (3, _), (4, _), (5, _), (6, _), (9, _)] [(0, _), (1, _), (2, _)] (fun kk E m => ∃ (j : Nat) (s2 : Nat → Nat), kk = 2 - j ∧ E = [(7, u (wO a b k j)), (12, ii j)] ∧ m = [(3, some ⟨r4, arr .u64 5 s2, 53⟩)] ∧ (j ≤ 2) ∧ (∀ t, t < k + j → s2 t = wd (wS a b k j) t) ∧ (∀ t, k + j ≤ t → t < 5 → s2 t = wd (a % 2 ^ (64 * k) * b) t)) [(7, u (wO a b k 0)), (12, ii 0)] [(3, some ⟨r4, arr .u64 5 s, 53⟩)] (2 - 0) ⟨by rw [wO_zero]; rfl, rfl, rfl, rfl, rfl, rfl, rfl, rfl, trivial⟩ ⟨rfl, rfl, rfl, rfl, trivial⟩ ⟨0, s, rfl, rfl, rfl, by omega, fun t ht => (hf0_1 t (by omega)).trans (wS_zero a b k t (by omega)).symm, fun t _ ht => hf0_1 t ht⟩ ?_
    rintro kk E m ⟨j, s2, rfl, rfl, rfl, hf1_0, hf1_1, hf1_2⟩
    simp only [catE, catL]
    have ha1 := wd_lt a k
    have hb1 := wd_lt b j
    have ho1 := wO_lt a b k j (by omega)
    have hs2 : j < 2 → s2 (k + j) = wd (a % 2 ^ (64 * k) * b) (k + j) := fun h => hf1_2 (k + j) (by omega) (by omega)
    refine e_seq ?_
    refine e_plain ?_
    refine e_lt rfl rfl rfl ?_
    refine e_nil ?_
    refine e_seq ?_
    refine e_cond rfl ?_ ?_
    · intro hc1
      have hc1 : j < 2 := by have := of_decide_eq_true hc1; omega
      refine e_skip ?_
      refine e_seq ?_
      refine e_block ?_
      refine e_seq ?_
      refine e_plain ?_
      refine e_move rfl rfl ?_
      refine e_assign rfl rfl ?_
      refine e_nil ?_
      refine e_draw mixed (by kernel_rfl) ?_
      refine e_move rfl rfl ?_
      refine e_move rfl rfl ?_
      refine e_add_i rfl rfl rfl (by omega) ?_
      refine e_move rfl rfl ?_
      refine e_index0 und61 siz23 rfl rfl (by omega) rfl ?_
      refine e_load1 (i := 0) und23 rfl rfl rfl (arr_get (by omega)) rfl ⟨[], trivial⟩ ?_
      refine e_move rfl rfl ?_
      refine e_index0 und24 siz23 rfl rfl (by omega) rfl ?_
      refine e_load1 (i := 1) und23 rfl rfl rfl (arr_get (by omega)) rfl ⟨[], trivial⟩ ?_
      refine e_move rfl rfl ?_
      refine e_move rfl rfl ?_
      refine e_add_i rfl rfl rfl (by omega) ?_
      refine e_index0 und53 siz23 rfl rfl (by omega) rfl ?_
      refine e_load1 (i := 3) und23 rfl rfl rfl (arr_get (by omega)) rfl ⟨[], trivial⟩ ?_
      refine e_move rfl rfl ?_
      have hs3 := wd_lt (a % 2 ^ (64 * k) * b) (k + j); have hs4 := hs2 hc1
      refine e_call rfl ent38 (dstep_fn _ _ _ _ (by omega) (by omega) (by omega) (by omega)) rfl rfl ?_
      refine e_move rfl rfl ?_
      refine e_extract rfl rfl rfl ?_
      refine e_extract rfl rfl rfl ?_
      refine e_index0 und53 siz23 rfl rfl (by omega) rfl ?_
      refine e_storeN (i := 3) siz23 rfl rfl rfl (by omega) (.inl rfl) ?_
      refine e_assign rfl rfl ?_
      refine e_nil ?_
      refine e_plain ?_
      refine e_add_i (q := 1) rfl rfl rfl (by omega) ?_
      refine e_move rfl rfl ?_
      refine e_nil ?_
      refine ⟨_, [(7, u (wO a b k (j + 1))), (12, ii (j + 1))], [(3, some ⟨r4, arr .u64 5 (upd s2 (k + j) _), 53⟩)], ?_, ⟨by rw [← wide_hi, ← hs2 hc1]; rfl, rfl, rfl, rfl, rfl, rfl, rfl, rfl, trivial⟩, ⟨rfl, rfl, rfl, rfl, trivial⟩, j + 1, upd s2 (k + j) _, rfl, rfl, rfl, by omega, by rw [hs2 hc1]; exact inner_low hf1_1, fun t h1 h2 => by rw [← hf1_2 t (by omega) h2]; unfold upd; rw [if_neg (by omega)]⟩
      omega
    · intro hc1
      have hc1 := of_decide_eq_false hc1
      have hz1 : j = 2 := by omega
      subst hz1
      refine e_exit ?_
      refine e_plain ?_
      refine e_move rfl rfl ?_
      refine e_add_i (q := 2) rfl rfl rfl (by omega) ?_
      refine e_move rfl rfl ?_
      refine e_index0 und53 siz23 rfl rfl (by omega) rfl ?_
      refine e_storeN (i := 3) siz23 rfl rfl rfl (by omega) (.inl rfl) ?_
      refine e_nil ?_
      refine e_plain ?_
      refine e_add_i (q := 1) rfl rfl rfl (by omega) ?_
      refine e_move rfl rfl ?_
      refine e_nil ?_
      refine ⟨_, [(9, ii (k + 1))], [(3, some ⟨r4, arr .u64 5 (upd s2 (k + 2) _), 53⟩)], ?_, ⟨rfl, rfl, rfl, rfl, rfl, trivial⟩, ⟨rfl, rfl, rfl, rfl, trivial⟩, k + 1, upd s2 (k + 2) _, rfl, rfl, rfl, by omega, outer_row2 hb hf1_1 hf1_2⟩
      omega
  · intro hc0
    have hc0 := of_decide_eq_false hc0
    have hz0 : k = 3 := by omega
    subst hz0
    refine e_exit ?_
    refine e_seq ?_
    refine e_plain ?_
    refine e_loadA (i := 3) und53 rfl siz53 rfl rfl (arr_size _ _ _) rfl ⟨[], trivial⟩ ?_
    refine e_storeA (i := 2) siz53 rfl rfl (arr_size _ _ _) arr_one rfl (arr_sz _ _ _ _ _) (.inl rfl) ?_
    refine e_nil ?_
    refine e_ret ?_
    rw [Nat.mod_eq_of_lt (show a < 2 ^ (64 * 3) from ha)] at hf0_1
    rw [← arr_congr hf0_1]
    exact ⟨_, rfl, .cell (i := 2) rfl rfl und53 rfl siz53 (arr_size _ _ _)⟩

end Go.Proofs.Ytmnmhmpklknleaa

/-
  Walks, written by a program of ours off the loaded functions.
-/
namespace Go.Proofs.Ytmnmhmpklknleaa
open Go Go.RowKit


theorem ent34 : enters Try.prog 34 = true := by kernel_rfl
theorem ent37 : enters Try.prog 37 = true := by kernel_rfl
theorem ent39 : enters Try.prog 39 = true := by kernel_rfl

variable {G : Mem}

set_option maxHeartbeats 2000000 in
theorem dproduct_fn (a b : Nat) (ha : a < 2 ^ 131) (hb : b < 2 ^ 124) : Fn Try.prog G 33 #[f3 a, f2 b] (f3 (a * b % QQ)) := by
  obtain ⟨x, hx⟩ : ∃ x, x = a * b := ⟨_, rfl⟩
  have hx2 : x < 2 ^ 255 := by rw [hx]; exact Nat.lt_of_le_of_lt (Nat.mul_le_mul (Nat.le_of_lt_succ ha) (Nat.le_of_lt hb)) (by decide)
  obtain ⟨L, hL⟩ : ∃ L, L = x % 2 ^ 130 := ⟨_, rfl⟩
  obtain ⟨H, hH⟩ : ∃ H, H = x / 2 ^ 130 := ⟨_, rfl⟩
  have hL2 : L < 2 ^ 130 := by rw [hL]; exact Nat.mod_lt _ (by decide)
  have hH2 : H < 2 ^ 125 := by omega
  have hQQ := QQ_eq
  obtain ⟨S, hS⟩ : ∃ S, S = L + 5 * H := ⟨_, rfl⟩
  have hS2 : S < 2 ^ 192 := by omega
  obtain ⟨t, ht⟩ : ∃ t, t = (if S < QQ then 1 else 0) := ⟨_, rfl⟩
  have ht1 : t ≤ 1 := by rw [ht]; split <;> omega
  refine fn1 (n := 67) Try.func33 rfl rfl (by simp) (argE [f3 a, f2 b] 0) (argE_ok _) ?_
  refine e_seq ?_
  refine e_plain ?_
  refine e_box 0 rfl rfl fun r1 => ?_
  refine e_box 1 rfl rfl fun r2 => ?_
  refine e_alloc 2 zer61 rfl fun r3 => ?_
  refine e_nil ?_
  refine e_seq ?_
  refine e_plain ?_
  refine e_loadA (i := 0) und61 rfl siz61 rfl rfl (arr_size _ _ _) rfl ⟨[], trivial⟩ ?_
  refine e_loadA (i := 1) und24 rfl siz24 rfl rfl (arr_size _ _ _) rfl ⟨[], trivial⟩ ?_
  refine e_call rfl ent37 (dwide_fn a b (by omega) (by omega)) rfl rfl ?_
  refine e_as (congrArg (fun z => Value.agg (arr .u64 5 (wd z))) hx.symm) ?_
  refine e_alloc 3 zer53 rfl fun r4 => ?_
  refine e_storeA (i := 3) siz53 rfl rfl (arr_size _ _ _) arr_one rfl (arr_sz _ _ _ _ _) (.inl rfl) ?_
  refine e_nil ?_
  refine e_seq ?_
  refine e_plain ?_
  refine e_index0 (j := 2) und53 siz23 rfl rfl (by omega) rfl ?_
  refine e_load1 (i := 3) und23 rfl rfl rfl (arr_get (by omega)) rfl ⟨[], trivial⟩ ?_
  refine e_shr_u (s := 2) rfl rfl rfl (by omega) ?_
  refine e_index0 (j := 3) und53 siz23 rfl rfl (by omega) rfl ?_
  refine e_load1 (i := 3) und23 rfl rfl rfl (arr_get (by omega)) rfl ⟨[], trivial⟩ ?_
  refine e_shl_u (s := 62) rfl rfl rfl (by omega) ?_
  refine e_or_u rfl rfl rfl  ?_
  refine e_as (congrArg u ((hi0 x).trans (by rw [← hH]))) ?_
  refine e_index0 (j := 3) und53 siz23 rfl rfl (by omega) rfl ?_
  refine e_load1 (i := 3) und23 rfl rfl rfl (arr_get (by omega)) rfl ⟨[], trivial⟩ ?_
  refine e_shr_u (s := 2) rfl rfl rfl (by omega) ?_
  refine e_as (congrArg u ((hi1 hx2).trans (by rw [← hH]))) ?_
  refine e_build (arr .u64 2 (wd H)) zer24 und24 siz23 rfl rfl rfl ?_
  refine e_alloc 4 zer24 rfl fun r5 => ?_
  refine e_storeA (i := 4) siz24 rfl rfl (arr_size _ _ _) arr_one rfl (arr_sz _ _ _ _ _) (.inl rfl) ?_
  refine e_nil ?_
  refine e_seq ?_
  refine e_plain ?_
  refine e_index0 (j := 0) und53 siz23 rfl rfl (by omega) rfl ?_
  refine e_load1 (i := 3) und23 rfl rfl rfl (arr_get (by omega)) rfl ⟨[], trivial⟩ ?_
  refine e_as (congrArg u ((lo0 x).trans (by rw [← hL]))) ?_
  refine e_index0 (j := 1) und53 siz23 rfl rfl (by omega) rfl ?_
  refine e_load1 (i := 3) und23 rfl rfl rfl (arr_get (by omega)) rfl ⟨[], trivial⟩ ?_
  refine e_as (congrArg u ((lo1 x).trans (by rw [← hL]))) ?_
  refine e_index0 (j := 2) und53 siz23 rfl rfl (by omega) rfl ?_
  refine e_load1 (i := 3) und23 rfl rfl rfl (arr_get (by omega)) rfl ⟨[], trivial⟩ ?_
  refine e_and_u (q := 3) rfl rfl rfl  ?_
  refine e_as (congrArg u ((lo2 x).trans (by rw [← hL]))) ?_
  refine e_build (arr .u64 3 (wd L)) zer61 und61 siz23 rfl rfl rfl ?_
  refine e_alloc 5 zer61 rfl fun r6 => ?_
  refine e_storeA (i := 5) siz61 rfl rfl (arr_size _ _ _) arr_one rfl (arr_sz _ _ _ _ _) (.inl rfl) ?_
  refine e_nil ?_
  refine e_seq ?_
  refine e_plain ?_
  refine e_assign rfl rfl ?_
  refine e_nil ?_
  refine e_seq ?_
  refine e_seq ?_
  refine e_plain ?_
  refine e_move rfl rfl ?_
  refine e_nil ?_
  refine e_block ?_
  refine e_loopK [(4, _), (6, _), (7, _)] [(0, _), (1, _), (2, _), (3, _), (4, _)] (fun kk E m => ∃ (k : Nat) (s : Nat → Nat), kk = 2 - k ∧ E = [(8, u (qS L H k / 2 ^ (64 * k))), (34, ii k)] ∧ m = [(5, some ⟨r6, arr .u64 3 s, 61⟩)] ∧ (k ≤ 2) ∧ (∀ t, t < k → s t = wd (qS L H k) t) ∧ (∀ t, k ≤ t → s t = wd L t)) [(8, u (qS L H 0 / 2 ^ (64 * 0))), (34, ii 0)] [(5, some ⟨r6, arr .u64 3 (wd L), 61⟩)] (2 - 0) ⟨by rw [qS_zero]; rfl, rfl, rfl, rfl, rfl, trivial⟩ ⟨rfl, rfl, rfl, rfl, rfl, rfl, trivial⟩ ⟨0, wd L, rfl, rfl, rfl, by omega, fun t ht => absurd ht (Nat.not_lt_zero t), fun t _ => rfl⟩ ?_
  rintro kk E m ⟨k, s, rfl, rfl, rfl, hf0_0, hf0_1, hf0_2⟩
  simp only [catE, catL]
  have hw1 := wd_lt H k
  have hw2 := wd_lt L k
  have hov := qS_lt L H k
  have hsk := hf0_2 k (Nat.le_refl k)
  refine e_seq ?_
  refine e_plain ?_
  refine e_lt rfl rfl rfl ?_
  refine e_nil ?_
  refine e_seq ?_
  refine e_cond rfl ?_ ?_
  · intro hc0
    have hc0 : k < 2 := by have := of_decide_eq_true hc0; omega
    refine e_skip ?_
    refine e_seq ?_
    refine e_block ?_
    refine e_seq ?_
    refine e_plain ?_
    refine e_move rfl rfl ?_
    refine e_assign rfl rfl ?_
    refine e_nil ?_
    refine e_draw mixed (by kernel_rfl) ?_
    refine e_move rfl rfl ?_
    refine e_move rfl rfl ?_
    refine e_index0 und24 siz23 rfl rfl (by omega) rfl ?_
    refine e_load1 (i := 4) und23 rfl rfl rfl (arr_get (by omega)) rfl ⟨[], trivial⟩ ?_
    refine e_move rfl rfl ?_
    refine e_index0 und61 siz23 rfl rfl (by omega) rfl ?_
    refine e_load1 (i := 5) und23 rfl rfl rfl (arr_get (by omega)) rfl ⟨[], trivial⟩ ?_
    refine e_move rfl rfl ?_
    refine e_call rfl ent38 (dstep_fn _ 5 _ _ (by omega) (by omega) (by omega) (by omega)) rfl rfl ?_
    refine e_move rfl rfl ?_
    refine e_extract rfl rfl rfl ?_
    refine e_extract rfl rfl rfl ?_
    refine e_index0 und61 siz23 rfl rfl (by omega) rfl ?_
    refine e_storeN (i := 5) siz23 rfl rfl rfl (by omega) (.inl rfl) ?_
    refine e_assign rfl rfl ?_
    refine e_nil ?_
    refine e_plain ?_
    refine e_add_i (q := 1) rfl rfl rfl (by omega) ?_
    refine e_move rfl rfl ?_
    refine e_nil ?_
    refine ⟨_, [(8, u (qS L H (k + 1) / 2 ^ (64 * (k + 1)))), (34, ii (k + 1))], [(5, some ⟨r6, arr .u64 3 (upd s k _), 61⟩)], ?_, ⟨by rw [← qS_hi, ← hsk]; rfl, rfl, rfl, rfl, rfl, trivial⟩, ⟨rfl, rfl, rfl, rfl, rfl, rfl, trivial⟩, k + 1, upd s k _, rfl, rfl, rfl, by omega, qS_low (hf0_2 k (Nat.le_refl k)) hf0_1, upd_ge hf0_2⟩
    omega
  · intro hc0
    have hc0 := of_decide_eq_false hc0
    have hz0 : k = 2 := by omega
    subst hz0
    refine e_exit ?_
    refine e_seq ?_
    refine e_plain ?_
    refine e_index0 (j := 2) und61 siz23 rfl rfl (by omega) rfl ?_
    refine e_load1 (i := 5) und23 rfl rfl rfl (arr_get (by omega)) rfl ⟨[], trivial⟩ ?_
    refine e_move rfl rfl ?_
    refine e_add_u rfl rfl rfl  ?_
    refine e_as (congrArg u (Nat.mod_eq_of_lt (show s 2 + qS L H 2 / 2 ^ (64 * 2) < 18446744073709551616 by have := hf0_2 2 (Nat.le_refl 2); have h4 : wd L 2 < 4 := wd2_lt hL2; omega))) ?_
    refine e_index0 (j := 2) und61 siz23 rfl rfl (by omega) rfl ?_
    refine e_storeN (i := 5) siz23 rfl rfl rfl (by omega) (.inl rfl) ?_
    refine e_nil ?_
    refine e_seq ?_
    refine e_draw mixed (by kernel_rfl) ?_
    refine e_loadA (i := 5) und61 rfl siz61 rfl rfl (arr_size _ _ _) rfl ⟨[], trivial⟩ ?_
    refine e_as (show _ = f3 S by rw [hS]; exact (f3_of (qS_end hL2 hH2 hf0_1 hf0_2)).symm) ?_
    refine e_call rfl ent32 dprime_fn rfl rfl ?_
    refine e_call rfl ent31 (dminus_fn _ _ (by omega) (by omega)) rfl rfl ?_
    refine e_move rfl rfl ?_
    refine e_extract rfl rfl rfl ?_
    refine e_extract rfl rfl rfl ?_
    refine e_as (congrArg u ht.symm) ?_
    refine e_alloc 6 zer61 rfl fun r7 => ?_
    refine e_storeA (i := 6) siz61 rfl rfl (arr_size _ _ _) arr_one rfl (arr_sz _ _ _ _ _) (.inl rfl) ?_
    refine e_assign rfl rfl ?_
    refine e_nil ?_
    refine e_seq ?_
    refine e_draw mixed (by kernel_rfl) ?_
    refine e_loadA (i := 6) und61 rfl siz61 rfl rfl (arr_size _ _ _) rfl ⟨[], trivial⟩ ?_
    refine e_call rfl ent32 dprime_fn rfl rfl ?_
    refine e_move rfl rfl ?_
    refine e_call rfl ent39 (dtimes_fn _ _ (by omega)) rfl rfl ?_
    refine e_call rfl ent34 (dplus_fn _ _) rfl rfl ?_
    refine e_storeA (i := 2) siz61 rfl rfl (arr_size _ _ _) arr_one rfl (arr_sz _ _ _ _ _) (.inl rfl) ?_
    refine e_nil ?_
    refine e_ret ?_
    rw [ht, ← hx, f3_of (prod5_fin (S := S) hx2 (by rw [hS, hL, hH]))]
    exact ⟨_, rfl, .cell (i := 2) rfl rfl und61 rfl siz61 (arr_size _ _ _)⟩

end Go.Proofs.Ytmnmhmpklknleaa

/-
  Walks, written by a program of ours off the loaded functions.
-/
namespace Go.Proofs.Ytmnmhmpklknleaa
open Go Go.RowKit


theorem ent20 : enters Try.prog 20 = true := by kernel_rfl
theorem ent33 : enters Try.prog 33 = true := by kernel_rfl

variable {G : Mem}

set_option maxHeartbeats 2000000 in
theorem dtake_fn (r p : Nat → Nat) (A : Nat) (h : Nat → Nat) (n : Nat) (hr0 : r 0 < 18446744073709551616) (hr1 : r 1 < 18446744073709551616) (hR : k3 r < 2 ^ 124) (hA : A < 2 ^ 130) (hn : n ≤ 16) (hh : ∀ j, j < 16 → h j < 256) (hz : ∀ j, n ≤ j → j < 16 → h j = 0) : Fn Try.prog G 28 #[PV r p (wd A) h n] (PV r p (wd (pst (k3 r) A ((List.range n).map h))) (fun _ => 0) ((0 : Nat) : Int)) := by
  obtain ⟨V, hV⟩ : ∃ V, V = vb h 16 := ⟨_, rfl⟩
  obtain ⟨B, hB⟩ : ∃ B, B = leN ((List.range n).map h ++ [1]) := ⟨_, rfl⟩
  have hB2 : B < 2 * 2 ^ 128 := by rw [hB]; exact bl_small (fun b hb => by obtain ⟨j, hj, rfl⟩ := List.mem_map.1 hb; exact hh j (by have := List.mem_range.1 hj; omega)) (by simp; exact hn)
  have hps : (A + B) * k3 r % QQ = pst (k3 r) A ((List.range n).map h) := by unfold pst; rw [← hB, Nat.mod_mul_mod]
  refine fn1 (n := 37) Try.func28 rfl rfl (by simp) (argE [PV r p (wd A) h n] 0) (argE_ok _) ?_
  refine e_seq ?_
  refine e_plain ?_
  refine e_box 0 rfl rfl fun r1 => ?_
  refine e_alloc 1 zer28 rfl fun r2 => ?_
  refine e_nil ?_
  refine e_seq ?_
  refine e_plain ?_
  refine e_fld (7) und28 rfl siz26 rfl rfl rfl ?_
  refine e_ldC (i := 0) 3 und26 rfl siz26 rfl rfl rfl (by decide) rfl ⟨[], trivial⟩ ?_
  refine e_call rfl ent20 (dpair_fn h hh) rfl rfl ?_
  refine e_as (congrArg f2 hV.symm) ?_
  refine e_alloc 2 zer24 rfl fun r3 => ?_
  refine e_storeA (i := 2) siz24 rfl rfl (arr_size _ _ _) arr_one rfl (arr_sz _ _ _ _ _) (.inl rfl) ?_
  refine e_nil ?_
  refine e_seq ?_
  refine e_plain ?_
  refine e_index0 (j := 0) und24 siz23 rfl rfl (by omega) rfl ?_
  refine e_load1 (i := 2) und23 rfl rfl rfl (arr_get (by omega)) rfl ⟨[], trivial⟩ ?_
  refine e_index0 (j := 1) und24 siz23 rfl rfl (by omega) rfl ?_
  refine e_load1 (i := 2) und23 rfl rfl rfl (arr_get (by omega)) rfl ⟨[], trivial⟩ ?_
  refine e_build (arr .u64 3 (upd (wd V) 2 0)) zer61 und61 siz23 rfl rfl rfl ?_
  refine e_alloc 3 zer61 rfl fun r4 => ?_
  refine e_storeA (i := 3) siz61 rfl rfl (arr_size _ _ _) arr_one rfl (arr_sz _ _ _ _ _) (.inl rfl) ?_
  refine e_nil ?_
  refine e_seq ?_
  refine e_draw mixed (by kernel_rfl) ?_
  refine e_fld (23) und28 rfl siz3 rfl rfl rfl ?_
  refine e_ldV1 (i := 0) 4 und3 rfl rfl rfl rfl (by decide) rfl ⟨[], trivial⟩ ?_
  refine e_quo_i (q := 8) rfl rfl rfl (by omega) (by omega) ?_
  refine e_index0 und61 siz23 rfl rfl (by omega) rfl ?_
  refine e_load1 (i := 3) und23 rfl rfl rfl (arr_get (by omega)) rfl ⟨[], trivial⟩ ?_
  refine e_fld (23) und28 rfl siz3 rfl rfl rfl ?_
  refine e_ldV1 (i := 0) 4 und3 rfl rfl rfl rfl (by decide) rfl ⟨[], trivial⟩ ?_
  refine e_rem_i (q := 8) rfl rfl rfl (by omega) ?_
  refine e_mul_i (q := 8) rfl rfl rfl (by omega) ?_
  refine e_shl_u (p := 1) rfl rfl rfl (by omega) ?_
  refine e_or_u rfl rfl rfl  ?_
  refine e_index0 und61 siz23 rfl rfl (by omega) rfl ?_
  refine e_storeN (i := 3) siz23 rfl rfl rfl (by omega) (.inl rfl) ?_
  refine e_nil ?_
  refine e_seq ?_
  refine e_draw mixed (by kernel_rfl) ?_
  refine e_fld (4) und28 rfl siz25 rfl rfl rfl ?_
  refine e_ldC (i := 0) 2 und25 rfl siz25 rfl rfl rfl (by decide) rfl ⟨[], trivial⟩ ?_
  refine e_loadA (i := 3) und61 rfl siz61 rfl rfl (arr_size _ _ _) rfl ⟨[], trivial⟩ ?_
  refine e_as (show _ = f3 B from (f3_of (held_one hh hz hn hV hB)).symm) ?_
  refine e_call rfl ent34 (dplus_fn _ _) rfl rfl ?_
  refine e_fld (0) und28 rfl siz24 rfl rfl rfl ?_
  refine e_ldC (i := 0) 0 und24 rfl siz24 rfl rfl rfl (by decide) rfl ⟨[], trivial⟩ ?_
  refine e_as (f2_of (wd_k3 hr0 hr1)).symm ?_
  refine e_call rfl ent33 (dproduct_fn (A + B) (k3 r) (by omega) hR) rfl rfl ?_
  refine e_as (congrArg f3 hps) ?_
  refine e_fld (4) und28 rfl siz25 rfl rfl rfl ?_
  refine e_stC (i := 0) 2 siz25 rfl rfl rfl rfl (by decide) (.inl rfl) ?_
  refine e_nil ?_
  refine e_seq ?_
  refine e_plain ?_
  refine e_build0 zer26 und26 sis5 rfl ?_
  refine e_fld (7) und28 rfl siz26 rfl rfl rfl ?_
  refine e_stC (i := 0) 3 siz26 rfl rfl rfl rfl (by decide) (.inl rfl) ?_
  refine e_fld (23) und28 rfl siz3 rfl rfl rfl ?_
  refine e_stV (i := 0) 4 siz3 rfl rfl rfl rfl rfl (by decide) (.inl rfl) ?_
  refine e_nil ?_
  refine e_seq ?_
  refine e_plain ?_
  refine e_loadA (i := 0) und28 rfl siz28 rfl rfl (arrv_size _ _) rfl ⟨[], trivial⟩ ?_
  refine e_as (show _ = PV r p (wd (pst (k3 r) A ((List.range n).map h))) (fun _ => 0) ((0 : Nat) : Int) from rfl) ?_
  refine e_storeA (i := 1) siz28 rfl rfl (arrv_size _ _) (cells_one ⟨fun _ => rfl, fun _ => rfl, fun _ => rfl, fun _ => rfl, fun _ => rfl, trivial⟩) rfl cells_sz (.inl rfl) ?_
  refine e_nil ?_
  refine e_ret ?_
  exact ⟨_, rfl, .cell (i := 1) rfl rfl und28 rfl siz28 (arrv_size _ _)⟩

set_option maxHeartbeats 2000000 in
theorem dpad_fn (r p : Nat → Nat) (A : Nat) (h : Nat → Nat) (n : Int) (hp0 : p 0 < 18446744073709551616) (hp1 : p 1 < 18446744073709551616) : Fn Try.prog G 30 #[PV r p (wd A) h n] (.agg (arr .u8 16 (tgn (k3 (wd A)) (k3 p)))) := by
  obtain ⟨X, hX⟩ : ∃ X, X = A + k3 p := ⟨_, rfl⟩
  have hE : ∀ s : Nat → Nat, (∀ j, j < 16 → s j = bt X j) → arr .u8 16 s = arr .u8 16 (tgn (k3 (wd A)) (k3 p)) := fun s h => arr_congr fun j hj => (h j hj).trans (by rw [hX]; exact bt_tgn A (k3 p) hj)
  refine fn1 (n := 32) Try.func30 rfl rfl (by simp) (argE [PV r p (wd A) h n] 0) (argE_ok _) ?_
  refine e_seq ?_
  refine e_plain ?_
  refine e_box 0 rfl rfl fun r1 => ?_
  refine e_alloc 1 zer26 rfl fun r2 => ?_
  refine e_nil ?_
  refine e_seq ?_
  refine e_plain ?_
  refine e_fld (4) und28 rfl siz25 rfl rfl rfl ?_
  refine e_ldC (i := 0) 2 und25 rfl siz25 rfl rfl rfl (by decide) rfl ⟨[], trivial⟩ ?_
  refine e_fld (2) und28 rfl siz24 rfl rfl rfl ?_
  refine e_at (2) (j := 0) und24 siz23 rfl rfl (by omega) (by omega) rfl ?_
  refine e_ldI (i := 0) 1 (0) und23 rfl rfl rfl rfl rfl (by decide) (by decide) rfl ⟨[], trivial⟩ ?_
  refine e_fld (2) und28 rfl siz24 rfl rfl rfl ?_
  refine e_at (3) (j := 1) und24 siz23 rfl rfl (by omega) (by omega) rfl ?_
  refine e_ldI (i := 0) 1 (1) und23 rfl rfl rfl rfl rfl (by decide) (by decide) rfl ⟨[], trivial⟩ ?_
  refine e_build (arr .u64 3 (upd p 2 0)) zer61 und61 siz23 rfl rfl rfl ?_
  refine e_as (show _ = f3 (k3 p) from (f3_of (k3_three hp0 hp1)).symm) ?_
  refine e_call rfl ent34 (dplus_fn _ _) rfl rfl ?_
  refine e_as (congrArg f3 hX.symm) ?_
  refine e_alloc 2 zer61 rfl fun r3 => ?_
  refine e_storeA (i := 2) siz61 rfl rfl (arr_size _ _ _) arr_one rfl (arr_sz _ _ _ _ _) (.inl rfl) ?_
  refine e_nil ?_
  refine e_seq ?_
  refine e_plain ?_
  refine e_alloc 3 zer26 rfl fun r4 => ?_
  refine e_nil ?_
  refine e_seq ?_
  refine e_seq ?_
  refine e_plain ?_
  refine e_move rfl rfl ?_
  refine e_nil ?_
  refine e_block ?_
  refine e_loopK [(2, _), (3, _), (4, _)] [(0, _), (1, _), (2, _)] (fun kk E m => ∃ (i : Nat) (s : Nat → Nat), kk = 16 - i ∧ E = [(16, ii i)] ∧ m = [(3, some ⟨r4, arr .u8 16 s, 26⟩)] ∧ (i ≤ 16) ∧ (∀ j, j < i → s j = bt X j)) [(16, ii 0)] [(3, some ⟨r4, arr .u8 16 (fun _ => 0), 26⟩)] (16 - 0) ⟨rfl, rfl, rfl, rfl, trivial⟩ ⟨rfl, rfl, rfl, rfl, trivial⟩ ⟨0, fun _ => 0, rfl, rfl, rfl, by omega, fun j hj => absurd hj (Nat.not_lt_zero j)⟩ ?_
  rintro kk E m ⟨i, s, rfl, rfl, rfl, hf0_0, hf0_1⟩
  simp only [catE, catL]
  refine e_seq ?_
  refine e_plain ?_
  refine e_lt rfl rfl rfl ?_
  refine e_nil ?_
  refine e_seq ?_
  refine e_cond rfl ?_ ?_
  · intro hc0
    have hc0 : i < 16 := by have := of_decide_eq_true hc0; omega
    refine e_skip ?_
    refine e_seq ?_
    refine e_block ?_
    refine e_seq ?_
    refine e_plain ?_
    refine e_move rfl rfl ?_
    refine e_assign rfl rfl ?_
    refine e_nil ?_
    refine e_plain ?_
    refine e_move rfl rfl ?_
    refine e_move rfl rfl ?_
    refine e_quo_i (q := 8) rfl rfl rfl (by omega) (by omega) ?_
    refine e_index0 und61 siz23 rfl rfl (by omega) rfl ?_
    refine e_load1 (i := 2) und23 rfl rfl rfl (arr_get (by omega)) rfl ⟨[], trivial⟩ ?_
    refine e_move rfl rfl ?_
    refine e_rem_i (q := 8) rfl rfl rfl (by omega) ?_
    refine e_mul_i (q := 8) rfl rfl rfl (by omega) ?_
    refine e_shr_u rfl rfl rfl (by omega) ?_
    refine e_conv_u8 und23 und5 rfl rfl rfl ?_
    refine e_index0 und26 siz5 rfl rfl (by omega) rfl ?_
    refine e_storeN (i := 3) siz5 rfl rfl rfl (by omega) (.inl rfl) ?_
    refine e_nil ?_
    refine e_plain ?_
    refine e_add_i (q := 1) rfl rfl rfl (by omega) ?_
    refine e_move rfl rfl ?_
    refine e_nil ?_
    refine ⟨_, [(16, ii (i + 1))], [(3, some ⟨r4, arr .u8 16 (upd s i _), 26⟩)], ?_, ⟨rfl, rfl, rfl, rfl, trivial⟩, ⟨rfl, rfl, rfl, rfl, trivial⟩, i + 1, upd s i _, rfl, rfl, rfl, by omega, upd_lt hf0_1 (bt_word X i)⟩
    omega
  · intro hc0
    have hc0 := of_decide_eq_false hc0
    have hz0 : i = 16 := by omega
    subst hz0
    refine e_exit ?_
    refine e_seq ?_
    refine e_plain ?_
    refine e_loadA (i := 3) und26 rfl siz26 rfl rfl (arr_size _ _ _) rfl ⟨[], trivial⟩ ?_
    refine e_storeA (i := 1) siz26 rfl rfl (arr_size _ _ _) arr_one rfl (arr_sz _ _ _ _ _) (.inl rfl) ?_
    refine e_nil ?_
    refine e_ret ?_
    rw [← hE _ hf0_1]
    exact ⟨_, rfl, .cell (i := 1) rfl rfl und26 rfl siz26 (arr_size _ _ _)⟩

end Go.Proofs.Ytmnmhmpklknleaa

/-
  The developers' one-time sum, its states: what may be, what is held as bytes come.
-/
namespace Go.Proofs.Ytmnmhmpklknleaa
open Go Go.RowKit

/-- Rows that show the same. -/
def catEq : List Part → List Part → Prop
  | [], [] => True
  | p :: ps, q :: qs => p.1 = q.1 ∧ (∀ i, i < p.1 → p.2 i = q.2 i) ∧ catEq ps qs
  | _, _ => False
theorem catF_congr : ∀ {ps qs : List Part}, catEq ps qs → ∀ i, catF ps i = catF qs i
  | [], [], _, _ => rfl
  | p :: ps, q :: qs, ⟨h1, h2, h3⟩, i => by
    simp only [catF]
    rw [← h1]
    by_cases h : i < p.1
    · rw [if_pos h, if_pos h, h2 i h]
    · rw [if_neg h, if_neg h, catF_congr h3]
theorem cells_congr {N : Nat} {ps qs : List Part} (h : catEq ps qs) : cells N ps = cells N qs := by
  unfold cells
  rw [funext (catF_congr h)]
theorem PV_congr {r r' p p' a a' h h' : Nat → Nat} {n n' : Int} (hr : ∀ j, j < 2 → r j = r' j) (hp : ∀ j, j < 2 → p j = p' j) (ha : ∀ j, j < 3 → a j = a' j) (hh : ∀ j, j < 16 → h j = h' j) (hn : n = n') : PV r p a h n = PV r' p' a' h' n' := by
  unfold PV
  congr 1
  exact cells_congr ⟨rfl, fun i hi => congrArg (fun z : Nat => Value.int .u64 (z : Int)) (hr i hi), rfl, fun i hi => congrArg (fun z : Nat => Value.int .u64 (z : Int)) (hp i hi), rfl, fun i hi => congrArg (fun z : Nat => Value.int .u64 (z : Int)) (ha i hi), rfl, fun i hi => congrArg (fun z : Nat => Value.int .u8 (z : Int)) (hh i hi), rfl, fun i _ => congrArg (Value.int .i64) hn, trivial⟩

/-! ### What may be -/
theorem w3_words {a : Nat → Nat} (h0 : a 0 < 18446744073709551616) (h1 : a 1 < 18446744073709551616) (h2 : a 2 < 18446744073709551616) : ∀ j, j < 3 → a j = wd (w3 a) j := by
  intro j hj
  have : j = 0 ∨ j = 1 ∨ j = 2 := by omega
  unfold wd w3
  rcases this with rfl | rfl | rfl
  · simp only [Nat.mul_zero, Nat.pow_zero, Nat.div_one]; omega
  · simp only [Nat.mul_one]; omega
  · simp only [Nat.reduceMul]; omega
theorem w3_lt192 {a : Nat → Nat} (h0 : a 0 < 18446744073709551616) (h1 : a 1 < 18446744073709551616) (h2 : a 2 < 18446744073709551616) : w3 a < 2 ^ 192 := by unfold w3; omega
theorem acc_ok {a : Nat → Nat} (h0 : a 0 < 18446744073709551616) (h1 : a 1 < 18446744073709551616) (h2 : a 2 < 18446744073709551616) : (decide (a 2 < 4) && allEq 3 (wd (w3 a % QQ)) a) = decide (w3 a < QQ) := by
  by_cases h : w3 a < QQ
  · have h4 : a 2 < 4 := by
      have := QQ_eq
      unfold w3 at h
      omega
    rw [decide_eq_true h, decide_eq_true h4, Nat.mod_eq_of_lt h, Bool.true_and, allEq_iff]
    exact fun j hj => (w3_words h0 h1 h2 j hj).symm
  · rw [decide_eq_false h, Bool.and_eq_false_iff]
    cases hb : allEq 3 (wd (w3 a % QQ)) a with
    | false => exact .inr rfl
    | true =>
      refine absurd ?_ h
      have q4 := allEq_iff.1 hb
      have hQ : w3 a % QQ < QQ := Nat.mod_lt _ QQ_pos
      have e2 : w3 (wd (w3 a % QQ)) = w3 a := by
        generalize w3 a % QQ = X at q4
        unfold w3
        rw [q4 0 (by decide), q4 1 (by decide), q4 2 (by decide)]
      have e : w3 a = w3 a % QQ := e2.symm.trans (w3_wd (Nat.lt_trans hQ QQ_lt))
      rw [e]; exact hQ
section
variable {r a : Nat → Nat} {n : Int}
theorem okcd_eq (hr0 : r 0 < 18446744073709551616) (hr1 : r 1 < 18446744073709551616) (h0 : a 0 < 18446744073709551616) (h1 : a 1 < 18446744073709551616) (h2 : a 2 < 18446744073709551616) : okcd r a n = (allEq 2 (clf r) r && (decide (0 ≤ n) && (decide (n < 16) && decide (w3 a < QQ)))) := by
  unfold okcd
  rw [acc_ok h0 h1 h2, allEq_congr (clamp_r hr0 hr1)]
theorem dcases (hr0 : r 0 < 18446744073709551616) (hr1 : r 1 < 18446744073709551616) (h0 : a 0 < 18446744073709551616) (h1 : a 1 < 18446744073709551616) (h2 : a 2 < 18446744073709551616) : (allEq 2 (clf r) r = false ∧ okcd r a n = false) ∨ (allEq 2 (clf r) r = true ∧ ¬ w3 a < QQ ∧ okcd r a n = false) ∨ (allEq 2 (clf r) r = true ∧ w3 a < QQ ∧ n < 0 ∧ okcd r a n = false) ∨ (allEq 2 (clf r) r = true ∧ w3 a < QQ ∧ ¬ n < 0 ∧ n ≥ 16 ∧ okcd r a n = false)
    ∨ (allEq 2 (clf r) r = true ∧ w3 a < QQ ∧ ∃ k : Nat, n = (k : Int) ∧ k < 16 ∧ okcd r a n = true) := by
  rw [okcd_eq hr0 hr1 h0 h1 h2]
  cases allEq 2 (clf r) r
  · exact .inl ⟨rfl, rfl⟩
  · right
    by_cases e1 : w3 a < QQ
    · right
      by_cases e2 : n < 0
      · exact .inl ⟨rfl, e1, e2, by rw [decide_eq_false (show ¬ 0 ≤ n by omega)]; rfl⟩
      · right
        by_cases e3 : n < 16
        · exact .inr ⟨rfl, e1, n.toNat, by omega, by omega, by rw [decide_eq_true (show 0 ≤ n by omega), decide_eq_true e3, decide_eq_true e1]; rfl⟩
        · exact .inl ⟨rfl, e1, e2, by omega, by rw [decide_eq_false e3]; simp⟩
    · exact .inl ⟨rfl, e1, by rw [decide_eq_false e1]; simp⟩
end
theorem ok_no {c d : Bool} (h : c = false) : ¬ (c && d) = true := by rw [h]; simp
theorem okh_all {k : Nat} {h : Nat → Nat} (hz : ∀ j, j < 16 - k → h (k + j) = 0) : okh (k : Int) h 16 = true := by
  unfold okh
  rw [List.all_eq_true]
  intro j hj
  have hj := List.mem_range.1 hj
  by_cases hjn : j < k
  · simp [hjn]
  · have := hz (j - k) (by omega)
    rw [show k + (j - k) = j by omega] at this
    simp [this]
theorem okh_not {k i : Nat} {h : Nat → Nat} (hi : i < 16 - k) (hz : h (k + i) ≠ 0) : okh (k : Int) h 16 = false := by
  unfold okh
  rw [List.all_eq_false]
  exact ⟨k + i, List.mem_range.2 (by omega), by simp [hz]; omega⟩

/-! ### What is held -/
def hold (S : List Nat) (T j : Nat) : Nat := if j < T % 16 then S.getD (16 * (T / 16) + j) 0 else 0
theorem hold_lt {S : List Nat} (hS : ∀ b ∈ S, b < 256) (T j : Nat) : hold S T j < 256 := by
  unfold hold
  split
  · exact getD_lt hS _
  · decide
theorem hold_first {h : Nat → Nat} {n : Nat} {l : List Nat} (hn : n < 16) (hz : ∀ j, n ≤ j → j < 16 → h j = 0) : ∀ j, j < 16 → h j = hold (sS h n l) (n + 0) j := by
  intro j hj
  unfold hold sS
  rw [Nat.add_zero, Nat.mod_eq_of_lt hn, Nat.div_eq_of_lt hn]
  by_cases hjn : j < n
  · rw [if_pos hjn, List.getD_eq_getElem?_getD, List.getElem?_append_left (by simp; omega), List.getElem?_map, List.getElem?_range (by omega)]
    simp
  · rw [if_neg hjn]; exact hz j (by omega) hj
theorem hold_next {S : List Nat} {T x : Nat} {g : Nat → Nat} (hT : T % 16 + 1 ≠ 16) (hx : x = S.getD T 0) (hg : ∀ j, j < 16 → g j = hold S T j) : ∀ j, j < 16 → upd g (T % 16) x j = hold S (T + 1) j := by
  intro j hj
  have e1 : (T + 1) % 16 = T % 16 + 1 := by omega
  have e2 : (T + 1) / 16 = T / 16 := by omega
  unfold upd
  split
  · rename_i e
    unfold hold
    rw [e1, e2, if_pos (by omega), hx, e, show 16 * (T / 16) + T % 16 = T by omega]
  · rename_i e
    rw [hg j hj]
    unfold hold
    rw [e1, e2]
    by_cases h : j < T % 16
    · rw [if_pos h, if_pos (by omega)]
    · rw [if_neg h, if_neg (by omega)]
theorem hold_zero {S : List Nat} {T : Nat} (hT : T % 16 + 1 = 16) : ∀ j, j < 16 → 0 = hold S (T + 1) j := by
  intro j hj
  unfold hold
  rw [if_neg (by omega)]
theorem hold_full {S : List Nat} {T x : Nat} {g : Nat → Nat} (hT : T % 16 + 1 = 16) (hl : T < S.length) (hx : x = S.getD T 0) (hg : ∀ j, j < 16 → g j = hold S T j) : (List.range 16).map (upd g (T % 16) x) = (S.drop (16 * (T / 16))).take 16 := by
  apply List.ext_getElem
  · simp; omega
  · intro j h1 h2
    have hj : j < 16 := by simpa using h1
    have hin : 16 * (T / 16) + j < S.length := by omega
    have hv : S[16 * (T / 16) + j] = S.getD (16 * (T / 16) + j) 0 := by rw [List.getD_eq_getElem?_getD, List.getElem?_eq_getElem hin]; rfl
    simp only [List.getElem_map, List.getElem_range, List.getElem_take, List.getElem_drop]
    rw [hv]
    unfold upd
    split
    · rename_i e; rw [hx, e, show 16 * (T / 16) + T % 16 = T by omega]
    · rename_i e
      rw [hg j hj]
      unfold hold
      rw [if_pos (by omega)]
theorem accs_stay {R A : Nat} {S : List Nat} {T ac : Nat} (hT : T % 16 + 1 ≠ 16) (h : ac = accs R A S (T / 16)) : ac = accs R A S ((T + 1) / 16) := by rw [h, show (T + 1) / 16 = T / 16 by omega]
theorem accs_step {R A : Nat} {S : List Nat} {T ac : Nat} {q : List Nat} (hT : T % 16 + 1 = 16) (h : ac = accs R A S (T / 16)) (hq : q = (S.drop (16 * (T / 16))).take 16) : pst R ac q = accs R A S ((T + 1) / 16) := by
  rw [show (T + 1) / 16 = T / 16 + 1 by omega, accs, ← h, hq]
theorem sS_at {h : Nat → Nat} {n i : Nat} {l : List Nat} (hi : i < l.length) : l[i] = (sS h n l).getD (n + i) 0 := by
  unfold sS
  rw [List.getD_eq_getElem?_getD, List.getElem?_append_right (by simp), List.length_map, List.length_range, Nat.add_sub_cancel_left, List.getElem?_eq_getElem hi]
  rfl
theorem hold_end {S : List Nat} {g : Nat → Nat} (hg : ∀ j, j < 16 → g j = hold S S.length j) : ∀ j, j < 16 → g j = (S.drop (16 * (S.length / 16))).getD j 0 := by
  intro j hj
  rw [hg j hj]
  unfold hold
  rw [List.getD_eq_getElem?_getD, List.getD_eq_getElem?_getD, List.getElem?_drop]
  split
  · rfl
  · rw [List.getElem?_eq_none (by omega)]; rfl

end Go.Proofs.Ytmnmhmpklknleaa

/-
  What the laws of chacha ask, in plain numbers: picks, nonces, a stream twice, known answers.
-/
namespace Go.Proofs.Ytmnmhmpklknleaa
open Go Go.RowKit

/-! ### picked -/
def pkn (z : Int) (m : Nat) : Nat := (z % (m : Int)).toNat
theorem pkn_lt (z : Int) {m : Nat} (h : 0 < m) : pkn z m < m := by
  have h1 := Int.emod_lt_of_pos z (show (0 : Int) < m by omega)
  have h2 := Int.emod_nonneg z (show (m : Int) ≠ 0 by omega)
  unfold pkn; omega
theorem pkn_int (z : Int) {m : Nat} (h : 0 < m) : ((pkn z m : Nat) : Int) = z % (m : Int) := by
  have h2 := Int.emod_nonneg z (show (m : Int) ≠ 0 by omega)
  unfold pkn; omega
theorem tmod_bd (z : Int) {m : Nat} (h : 0 < m) : -(m : Int) < z.tmod (m : Int) ∧ z.tmod (m : Int) < m := by
  have h1 := Int.emod_lt_of_pos z (show (0 : Int) < m by omega)
  have h2 := Int.emod_nonneg z (show (m : Int) ≠ 0 by omega)
  rw [Int.tmod_eq_emod]
  split
  · omega
  · rename_i hn
    have : z % (m : Int) ≠ 0 := fun e => hn (.inr (Int.dvd_of_emod_eq_zero e))
    simp only [Int.natAbs_natCast]
    omega
theorem pkn_neg {z : Int} {m : Nat} (hm : 0 < m) (h : z.tmod (m : Int) < 0) : z.tmod (m : Int) + (m : Int) = ((pkn z m : Nat) : Int) := by
  rw [pkn_int z hm]
  have h1 := Int.emod_nonneg z (show (m : Int) ≠ 0 by omega)
  rw [Int.tmod_eq_emod] at h ⊢
  split at h
  · omega
  · rename_i hn
    rw [if_neg hn]
    simp only [Int.natAbs_natCast] at *
    omega
theorem pkn_pos {z : Int} {m : Nat} (hm : 0 < m) (h : ¬ z.tmod (m : Int) < 0) : z.tmod (m : Int) = ((pkn z m : Nat) : Int) := by
  rw [pkn_int z hm]
  have h1 := Int.emod_lt_of_pos z (show (0 : Int) < m by omega)
  rw [Int.tmod_eq_emod] at h ⊢
  split at h
  · rename_i hn; rw [if_pos hn]; simp
  · rename_i hn
    simp only [Int.natAbs_natCast] at h
    omega

/-! ### Nonces of things -/
def nonf (l : List Nat) (a b : Int) (j : Nat) : Nat := if j = 11 then (b % 256).toNat else if j = 10 then (a % 256).toNat else if j < min l.length 12 then l.getD j 0 else 0
theorem nonf_lt {l : List Nat} (hl : ∀ x ∈ l, x < 256) (a b : Int) : ∀ j, j < 12 → nonf l a b j < 256 := fun j _ => by
  unfold nonf
  split
  · omega
  · split
    · omega
    · split
      · rename_i h
        rw [List.getD_eq_getElem?_getD, List.getElem?_eq_getElem (show j < l.length by omega)]
        exact hl _ (List.getElem_mem _)
      · decide
theorem non_end (l : List Nat) (a b : Int) : arr .u8 12 (upd (upd (fun j => if 0 + 0 * 1 ≤ j ∧ j < 0 + 0 * 1 + min l.length (12 - 0) then l.getD (j - (0 + 0 * 1)) 0 else 0) 10 (a % 256).toNat) 11 (b % 256).toNat) = arr .u8 12 (nonf l a b) := arr_congr fun j _ => by
  unfold nonf upd
  split
  · rfl
  · split
    · rfl
    · by_cases h : j < min l.length 12
      · rw [if_pos h]; exact if_pos (by omega)
      · rw [if_neg h]; exact if_neg (by omega)

/-! ### A stream twice; a stream's rest -/
theorem xor_back {a b : Nat} (ha : a < 256) (hb : b < 256) : ((a ^^^ b) % 256 ^^^ b) % 256 = a := by
  have h1 : a ^^^ b < 2 ^ 8 := Nat.xor_lt_two_pow (by omega) (by omega)
  rw [Nat.mod_eq_of_lt (show a ^^^ b < 256 by omega), Nat.xor_assoc, Nat.xor_self, Nat.xor_zero, Nat.mod_eq_of_lt ha]
theorem strl_get (k : Nat → Nat) (c : Nat) (nn : Nat → Nat) (l : List Nat) {t : Nat} (h : t < l.length) : (strl k c nn l 0).getD t 0 = strv k c nn l t := by
  rw [List.getD_eq_getElem?_getD, List.getElem?_eq_getElem (by rw [strl_len]; omega)]
  simp [strl]
theorem str_twice (k : Nat → Nat) (c : Nat) (nn : Nat → Nat) {l : List Nat} (hl : ∀ x ∈ l, x < 256) : strl k c nn (strl k c nn l 0) 0 = l := by
  apply List.ext_getElem
  · simp [strl_len]
  · intro j h1 h2
    have e : (strl k c nn (strl k c nn l 0) 0)[j] = strv k c nn (strl k c nn l 0) j := by simp [strl]
    rw [e]
    unfold strv
    rw [strl_get k c nn l h2]
    unfold strv
    rw [List.getD_eq_getElem?_getD, List.getElem?_eq_getElem h2]
    exact xor_back (hl _ (List.getElem_mem _)) (blkf_lt _ _ _ _)
theorem str_rest (k : Nat → Nat) {c : Nat} (nn : Nat → Nat) (l : List Nat) (hl : l.length ≤ 300) : (strl k c nn l 0).drop (min 64 l.length) = strl k (c + 1) nn (l.drop (min 64 l.length)) 0 := by
  apply List.ext_getElem
  · simp [strl_len]
  · intro j h1 h2
    have hj : j < l.length - min 64 l.length := by simpa [strl_len] using h2
    have hm : min 64 l.length = 64 := by omega
    have e1 : ((strl k c nn l 0).drop (min 64 l.length))[j] = strv k c nn l (64 + j) := by
      rw [List.getElem_drop]
      simp [strl, hm]
    have e2 : (strl k (c + 1) nn (l.drop (min 64 l.length)) 0)[j] = strv k (c + 1) nn (l.drop (min 64 l.length)) j := by simp [strl]
    rw [e1, e2, hm]
    unfold strv
    rw [show (c + (64 + j) / 64 % 4294967296) % 4294967296 = (c + 1 + j / 64 % 4294967296) % 4294967296 by omega, show (64 + j) % 64 = j % 64 by omega]
    congr 2
    simp [List.getD]

theorem strv_first (k : Nat → Nat) {c : Nat} (nn : Nat → Nat) (l : List Nat) {i : Nat} (h : i < l.length) (hi : i < 64) (hc : c < 4294967296) : (l[i] ^^^ blkf k c nn i) % 256 = strv k c nn l i := by
  unfold strv
  rw [List.getD_eq_getElem?_getD, List.getElem?_eq_getElem h, show (c + i / 64 % 4294967296) % 4294967296 = c by omega, show i % 64 = i by omega]
  rfl
theorem cut_rest (k : Nat → Nat) (c : Nat) (nn : Nat → Nat) (l : List Nat) : ((strl k c nn l 0).drop (min 64 l.length)).take (l.length - 0 - min 64 l.length) = (strl k c nn l 0).drop (min 64 l.length) := List.take_of_length_le (by simp [strl_len])
theorem cut_end (l : List Nat) (i : Nat) : (l.drop i).take (l.length - i) = l.drop i := List.take_of_length_le (by simp)
theorem nth_str (k : Nat → Nat) (c : Nat) (nn : Nat → Nat) (l : List Nat) {i : Nat} (h : i < l.length) : ((strl k c nn l 0).map by8)[i]? = some (by8 (strv k c nn l i)) := by
  rw [List.getElem?_map, List.getElem?_eq_getElem (by rw [strl_len]; omega)]
  simp [strl]
theorem nth_by8 {l : List Nat} {i : Nat} (h : i < l.length) : (l.map by8)[i]? = some (by8 l[i]) := by
  rw [List.getElem?_map, List.getElem?_eq_getElem h]; rfl

/-! ### Known answers -/
def itL (l : List Nat) : List Nat := (List.range 16).map (dbl (fun t => l.getD t 0))
theorem rnd_cg {f g : Nat → Nat} (h : ∀ t, t < 16 → f t = g t) : ∀ t, t < 16 → rnd f t = rnd g t := fun t ht => by
  unfold rnd
  rw [h (t % 4) (by omega), h (4 + t % 4) (by omega), h (8 + t % 4) (by omega), h (12 + t % 4) (by omega)]
theorem dbl_cg {f g : Nat → Nat} (h : ∀ t, t < 16 → f t = g t) : ∀ t, t < 16 → dbl f t = dbl g t := fun t ht => by
  unfold dbl shm
  exact rnd_cg (fun t ht => by unfold sh1; exact rnd_cg h _ (by omega)) _ (by omega)
theorem dbls_it {f : Nat → Nat} {k : Nat} {l l' : List Nat} (h : ∀ t, t < 16 → dbls f k t = l.getD t 0) (hl : itL l = l') : ∀ t, t < 16 → dbls f (k + 1) t = l'.getD t 0 := fun t ht => by
  rw [← hl]
  show dbl (dbls f k) t = _
  rw [dbl_cg h t ht]
  simp [itL, List.getD, ht]

def kn0 : List Nat := [1634760805, 857760878, 2036477234, 1797285236, 50462976, 117835012, 185207048, 252579084, 319951120, 387323156, 454695192, 522067228, 1, 150994944, 1241513984, 0]
def kn1 : List Nat := [3444762903, 2242577332, 3007673237, 4184729565, 3300379938, 1546524794, 3378426977, 829194266, 2079840064, 2128467524, 4053908981, 1980909258, 1796036771, 1738032922, 3610767719, 4050880653]
def kn2 : List Nat := [3474617732, 76097516, 1409621978, 3259301672, 2417831744, 2037692444, 932040628, 3444047118, 766489110, 667458774, 3443301024, 2046593479, 279900557, 371296101, 1761044229, 81194530]
def kn3 : List Nat := [60899378, 1722898727, 2641062722, 3092005129, 2803120864, 2694525917, 2782572424, 802757235, 3373034264, 1512055827, 3255697846, 1926065012, 3124090743, 3009475007, 2172137819, 751901466]
def kn4 : List Nat := [2586654089, 186907726, 1085225835, 3471475012, 169607110, 1582928887, 2567226087, 221464344, 3832308564, 3377476137, 83817898, 4170399602, 646435958, 1424380465, 898957253, 725332682]
def kn5 : List Nat := [3308460229, 3392298390, 2122125771, 872735434, 651677555, 1619579769, 3237013949, 3809529273, 2922162395, 1123449970, 1902549706, 2539394845, 2657010216, 2105911795, 538773334, 1677355347]
def kn6 : List Nat := [77796122, 1712808713, 68532913, 1639481506, 919373511, 3213509733, 4152219424, 4228635792, 131152586, 3943426479, 1633260689, 2441417436, 867592301, 2036123249, 3221526898, 2695371742]
def kn7 : List Nat := [2607871263, 2124983313, 568675753, 3392748335, 2477819526, 1783386286, 421603930, 2600675672, 3627619934, 1275519626, 3556632990, 648855869, 2785670485, 740582729, 2501187667, 746879501]
def kn8 : List Nat := [3395061213, 2477062414, 3656441688, 652051165, 2552587256, 1898621439, 664429032, 2534372029, 472224538, 1367390992, 2006722535, 1409777160, 2847363579, 942619874, 2377217405, 3426224139]
def kn9 : List Nat := [3065544166, 2583781704, 2475005973, 1226172108, 3694379298, 2564919203, 1610344700, 4145367947, 683801779, 3300102045, 2212689367, 2099558795, 554142498, 2979260323, 3002373001, 1826512934]
def kn10 : List Nat := [2205644971, 3795375971, 2793071134, 1498463023, 3304247495, 4234328879, 2409634044, 1063176119, 861041090, 4069820915, 3938298108, 2196008637, 3516666548, 2957907678, 2659438795, 1312575650]
theorem kn_s0 : itL kn0 = kn1 := by decide +kernel
theorem kn_s1 : itL kn1 = kn2 := by decide +kernel
theorem kn_s2 : itL kn2 = kn3 := by decide +kernel
theorem kn_s3 : itL kn3 = kn4 := by decide +kernel
theorem kn_s4 : itL kn4 = kn5 := by decide +kernel
theorem kn_s5 : itL kn5 = kn6 := by decide +kernel
theorem kn_s6 : itL kn6 = kn7 := by decide +kernel
theorem kn_s7 : itL kn7 = kn8 := by decide +kernel
theorem kn_s8 : itL kn8 = kn9 := by decide +kernel
theorem kn_s9 : itL kn9 = kn10 := by decide +kernel
def ko0 : List Nat := [1634760805, 857760878, 2036477234, 1797285236, 0, 0, 0, 0, 0, 0, 0, 0, 0, 0, 0, 0]
def ko1 : List Nat := [3831485001, 465051814, 3810167018, 3865553406, 708572787, 2260680856, 1175146506, 4195784838, 1401801230, 205755969, 16389820, 2315813162, 1807715081, 3274707926, 3147798601, 2277908837]
def ko2 : List Nat := [2987265446, 555851331, 2043056534, 2394542343, 683648334, 243939487, 2031723700, 842999353, 1769110809, 317167340, 3515309448, 1613476332, 1612483213, 416233319, 1624313532, 397031114]
def ko3 : List Nat := [42443425, 3537648111, 4075615518, 3280431870, 2457253921, 936163239, 535217241, 3858322967, 3618735395, 2694131698, 320827381, 1865984460, 1547860575, 496143739, 4107449562, 442763396]
def ko4 : List Nat := [3464398809, 2736782107, 1867918925, 914662315, 3272508460, 998218446, 2296453912, 505049583, 1927367832, 1097802169, 1733510303, 425094469, 2739030577, 28346074, 3103619896, 1123945486]
def ko5 : List Nat := [1308838156, 2549006073, 4135762692, 793240496, 1354003995, 3934035184, 3013862787, 3854227624, 1335860601, 1156916115, 2881466214, 1593652346, 2985647285, 85002989, 1444698375, 3558679988]
def ko6 : List Nat := [153779254, 551088281, 2573988431, 1784856811, 3150129412, 343203913, 2777219198, 1595256366, 2046321669, 3236133586, 875096108, 2039282348, 748642874, 426368672, 803736417, 3190166337]
def ko7 : List Nat := [1843350424, 1608384784, 3655185970, 1947739403, 3718507033, 1188705781, 838547146, 1894081315, 1188398960, 3234391270, 3125483095, 3295685470, 2940917475, 3868489986, 646047163, 674516562]
def ko8 : List Nat := [4142613381, 256929999, 2185938132, 4278346116, 1910216669, 1624086861, 2910867510, 2312475086, 2656191475, 382791205, 2196319126, 3503982164, 1805033478, 1199192055, 3527735948, 2991348835]
def ko9 : List Nat := [172609723, 4252221419, 3259208404, 3775952493, 2081980761, 957320013, 170075935, 235214466, 1531487041, 140632055, 1563676091, 399783725, 3319306763, 2649833516, 2961880544, 2236122496]
def ko10 : List Nat := [1282424849, 1562217778, 1812475918, 3181191391, 3088700093, 451775904, 3438229160, 3339548555, 2086224346, 2370328401, 1071654007, 927652024, 4105716586, 480319509, 1773569987, 2254827186]
theorem ko_s0 : itL ko0 = ko1 := by decide +kernel
theorem ko_s1 : itL ko1 = ko2 := by decide +kernel
theorem ko_s2 : itL ko2 = ko3 := by decide +kernel
theorem ko_s3 : itL ko3 = ko4 := by decide +kernel
theorem ko_s4 : itL ko4 = ko5 := by decide +kernel
theorem ko_s5 : itL ko5 = ko6 := by decide +kernel
theorem ko_s6 : itL ko6 = ko7 := by decide +kernel
theorem ko_s7 : itL ko7 = ko8 := by decide +kernel
theorem ko_s8 : itL ko8 = ko9 := by decide +kernel
theorem ko_s9 : itL ko9 = ko10 := by decide +kernel
theorem kn_all (f : Nat → Nat) (h : ∀ t, t < 16 → f t = kn0.getD t 0) : ∀ t, t < 16 → dbls f 10 t = kn10.getD t 0 :=
  (dbls_it (dbls_it (dbls_it (dbls_it (dbls_it (dbls_it (dbls_it (dbls_it (dbls_it (dbls_it h kn_s0) kn_s1) kn_s2) kn_s3) kn_s4) kn_s5) kn_s6) kn_s7) kn_s8) kn_s9)
theorem ko_all (f : Nat → Nat) (h : ∀ t, t < 16 → f t = ko0.getD t 0) : ∀ t, t < 16 → dbls f 10 t = ko10.getD t 0 :=
  (dbls_it (dbls_it (dbls_it (dbls_it (dbls_it (dbls_it (dbls_it (dbls_it (dbls_it (dbls_it h ko_s0) ko_s1) ko_s2) ko_s3) ko_s4) ko_s5) ko_s6) ko_s7) ko_s8) ko_s9)
theorem outl_cg {v w v' w' : Nat → Nat} : ∀ i, i ≤ 16 → (∀ t, t < 16 → v t = v' t) → (∀ t, t < 16 → w t = w' t) → outl v w i = outl v' w' i
  | 0, _, _, _ => rfl
  | i + 1, h, h1, h2 => by
    unfold outl
    rw [outl_cg i (by omega) h1 h2, h1 i (by omega), h2 i (by omega)]
abbrev knk : Nat → Nat := fun j => j
abbrev knn : Nat → Nat := upd (upd (fun _ => 0) 3 9) 7 74
theorem kn_start : ∀ t, t < 16 → wrd (allb knk 1 knn) t = kn0.getD t 0 := by decide +kernel
theorem ko_start : ∀ t, t < 16 → wrd (allb (fun _ => 0) 0 (fun _ => 0)) t = ko0.getD t 0 := by decide +kernel
theorem kn_blk : blkl knk 1 knn = outl (fun t => kn10.getD t 0) (fun t => kn0.getD t 0) 16 := outl_cg 16 (by decide) (kn_all _ kn_start) kn_start
theorem ko_blk : blkl (fun _ => 0) 0 (fun _ => 0) = outl (fun t => ko10.getD t 0) (fun t => ko0.getD t 0) 16 := outl_cg 16 (by decide) (ko_all _ ko_start) ko_start
abbrev knA : List Nat := [16, 241, 231, 228, 209, 59, 89, 21]
theorem kn_out : ∀ i, i < 8 → blkf knk 1 knn i = knA.getD i 0 := by
  unfold blkf; rw [kn_blk]; decide +kernel
theorem ko_out : blkf (fun _ => 0) 0 (fun _ => 0) 0 = 118 := by
  unfold blkf; rw [ko_blk]; decide +kernel

/-! ### Slices of bytes -/
theorem Shows.cut {B : Mem} {v : Value} {l l' : List Nat} {i j : Nat} (h : Shows B 1 v l.length (l.map by8)) (h1 : i ≤ j) (h2 : j ≤ l.length) (hl : (l.drop i).take (j - i) = l') : Shows B 1 (slPart 1 v i j) l'.length (l'.map by8) := by
  have := h.part h1 h2
  rw [Nat.mul_one, Nat.mul_one, ← List.map_drop, ← List.map_take, hl] at this
  have e : j - i = l'.length := by rw [← hl]; simp; omega
  rw [e] at this
  exact this
theorem own_bytes {e : TypeId} {v : Value} {l : List Nat} {n : Nat} {m : Mem} (h : OwnS e 1 v n (l.map by8) m) : Shows m 1 v l.length (l.map by8) := by
  have h1 := h.len
  rw [List.length_map, Nat.mul_one] at h1
  rw [h1]; exact h.shows
def zrs (n : Nat) : List Nat := (List.range n).map fun _ => 0
theorem zrs_len (n : Nat) : (zrs n).length = n := by simp [zrs]
theorem zrs_lt (n : Nat) : ∀ x ∈ zrs n, x < 256 := fun x hx => by
  obtain ⟨_, _, rfl⟩ := List.mem_map.1 hx; decide
theorem made_shows (r n : Nat) (e : TypeId) : Shows [⟨r, arr .u8 n (fun _ => 0), e⟩] 1 (.slice (some ⟨r, 0, none⟩) n n) (zrs n).length ((zrs n).map by8) := by
  rw [zrs_len]
  have := shows_new (z := 1) (len := n) (r := r) (arr .u8 n (fun _ => 0)) e (by rw [arr_size, Nat.mul_one])
  have e2 : (arr .u8 n (fun _ => 0)).toList = (zrs n).map by8 := by
    unfold arr zrs
    rw [List.map_map]
    rfl
  rw [e2] at this
  exact this
theorem take_min (l : List Nat) : (l.drop 0).take (min l.length 300 - 0) = l.take 300 := by
  rw [List.drop_zero, Nat.sub_zero]
  by_cases h : l.length ≤ 300
  · rw [Nat.min_eq_left h, List.take_length, List.take_of_length_le h]
  · rw [Nat.min_eq_right (by omega)]

end Go.Proofs.Ytmnmhmpklknleaa

/-
  Walks, written by a program of ours off the loaded functions.
-/
namespace Go.Proofs.Ytmnmhmpklknleaa
open Go Go.RowKit


theorem ent21 : enters Try.prog 21 = true := by kernel_rfl
theorem ent22 : enters Try.prog 22 = true := by kernel_rfl

variable {G : Mem}

set_option maxHeartbeats 2000000 in
theorem dbegin_fn (f : Nat → Nat) (hf : ∀ j, j < 32 → f j < 256) : Fn Try.prog G 9 #[.agg (arr .u8 32 f)] (PV (w8 (bL f)) (fun j => w8 (bL f) (j + 2)) (fun _ => 0) (fun _ => 0) 0) := by
  refine fn1 (n := 17) Try.func9 rfl rfl (by simp) (argE [.agg (arr .u8 32 f)] 0) (argE_ok _) ?_
  refine e_seq ?_
  refine e_plain ?_
  refine e_box 0 rfl rfl fun r1 => ?_
  refine e_alloc 1 zer28 rfl fun r2 => ?_
  refine e_nil ?_
  refine e_seq ?_
  refine e_draw mixed (by kernel_rfl) ?_
  refine e_sliceA 0 16 und46 siz5 rfl rfl rfl rfl ⟨_, rfl⟩ (by omega) (by omega) (by omega) rfl ?_
  refine e_toArr und26 rfl (by omega) rfl ?_
  refine e_loadS (i := 0) und26 rfl siz26 rfl rfl (by omega) rfl ⟨[], trivial⟩ ?_
  refine e_as (congrArg Value.agg (arr_congr (fun j _ => congrArg f (Nat.zero_add j)))) ?_
  refine e_call rfl ent20 (dpair_fn f (fun j hj => hf j (by omega))) rfl rfl ?_
  refine e_sliceA 16 32 und46 siz5 rfl rfl rfl ⟨_, rfl⟩ rfl (by omega) (by omega) (by omega) rfl ?_
  refine e_toArr und26 rfl (by omega) rfl ?_
  refine e_loadS (i := 0) und26 rfl siz26 rfl rfl (by omega) rfl ⟨[], trivial⟩ ?_
  refine e_call rfl ent20 (dpair_fn (fun t => f (16 + t)) (fun j hj => hf _ (by omega))) rfl rfl ?_
  refine e_as (congrArg Value.agg (arr_congr (pad_key hf))) ?_
  refine e_alloc 2 zer24 rfl fun r3 => ?_
  refine e_alloc 3 zer24 rfl fun r4 => ?_
  refine e_storeA (i := 2) siz24 rfl rfl (arr_size _ _ _) arr_one rfl (arr_sz _ _ _ _ _) (.inl rfl) ?_
  refine e_storeA (i := 3) siz24 rfl rfl (arr_size _ _ _) arr_one rfl (arr_sz _ _ _ _ _) (.inl rfl) ?_
  refine e_nil ?_
  refine e_seq ?_
  refine e_draw mixed (by kernel_rfl) ?_
  refine e_loadA (i := 2) und24 rfl siz24 rfl rfl (arr_size _ _ _) rfl ⟨[], trivial⟩ ?_
  refine e_call rfl ent21 (dclamped_fn _) rfl rfl ?_
  refine e_as (congrArg Value.agg (arr_congr (clamp_key hf))) ?_
  refine e_loadA (i := 3) und24 rfl siz24 rfl rfl (arr_size _ _ _) rfl ⟨[], trivial⟩ ?_
  refine e_buildS (cells 24 [pI .u64 2 (w8 (bL f)), pI .u64 2 (fun j => w8 (bL f) (j + 2)), pI .u64 3 (fun _ => 0), pI .u8 16 (fun _ => 0), pV (.int .i64 0)]) zer28 und28 pls28 rfl rfl rfl ?_
  refine e_storeA (i := 1) siz28 rfl rfl (arrv_size _ _) (cells_one ⟨fun _ => rfl, fun _ => rfl, fun _ => rfl, fun _ => rfl, fun _ => rfl, trivial⟩) rfl cells_sz (.inl rfl) ?_
  refine e_nil ?_
  refine e_ret ?_
  exact ⟨_, rfl, .cell (i := 1) rfl rfl und28 rfl siz28 (arrv_size _ _)⟩

set_option maxHeartbeats 4000000 in
theorem dcheck_fn (r p a h : Nat → Nat) (n : Int) (ha0 : a 0 < 18446744073709551616) (ha1 : a 1 < 18446744073709551616) (ha2 : a 2 < 18446744073709551616) (hr0 : r 0 < 18446744073709551616) (hr1 : r 1 < 18446744073709551616) : Fn Try.prog G 10 #[PV r p a h n] (ii (if (okcd r a n && okh n h 16) = true then 0 else 9)) := by
  refine fn1 (n := 39) Try.func10 rfl rfl (by simp) (argE [PV r p a h n] 0) (argE_ok _) ?_
  refine e_seq ?_
  refine e_plain ?_
  refine e_box 0 rfl rfl fun r1 => ?_
  refine e_assign rfl rfl ?_
  refine e_nil ?_
  refine e_seq ?_
  refine e_seq ?_
  rcases dcases (n := n) hr0 hr1 ha0 ha1 ha2 with ⟨hk0, hko⟩ | ⟨hk0, hk1, hko⟩ | ⟨hk0, hk1, hk2, hko⟩ | ⟨hk0, hk1, hk2, hk3, hko⟩ | ⟨hk0, hk1, k, rfl, hk3, hko⟩
  · skip
    refine e_draw mixed (by kernel_rfl) ?_
    refine e_fld (0) und28 rfl siz24 rfl rfl rfl ?_
    refine e_ldC (i := 0) 0 und24 rfl siz24 rfl rfl rfl (by decide) rfl ⟨[], trivial⟩ ?_
    refine e_call rfl ent21 (dclamped_fn _) rfl rfl ?_
    refine e_fld (0) und28 rfl siz24 rfl rfl rfl ?_
    refine e_ldC (i := 0) 0 und24 rfl siz24 rfl rfl rfl (by decide) rfl ⟨[], trivial⟩ ?_
    refine e_neA und24 und23 siz23 eqg24 rfl rfl rfl ?_
    refine e_as (congrArg (fun z => Value.bool (!z)) hk0) ?_
    refine e_move rfl rfl ?_
    refine e_no rfl rfl (by decide) rfl ?_
    refine e_no rfl rfl (by decide) rfl ?_
    refine e_no rfl rfl (by decide) rfl ?_
    refine e_no rfl rfl (by decide) rfl ?_
    refine e_pickT rfl rfl rfl rfl ?_
    refine e_move rfl rfl ?_
    refine e_no rfl rfl (by decide) rfl ?_
    refine e_no rfl rfl (by decide) rfl ?_
    refine e_no rfl rfl (by decide) rfl ?_
    refine e_pickT rfl rfl rfl rfl ?_
    refine e_move rfl rfl ?_
    refine e_no rfl rfl (by decide) rfl ?_
    refine e_no rfl rfl (by decide) rfl ?_
    refine e_no rfl rfl (by decide) rfl ?_
    refine e_pickT rfl rfl rfl rfl ?_
    refine e_nil ?_
    refine e_cond rfl ?_ ?_
    · intro hc0
      have hfin := ok_no (d := okh n h 16) hko
      refine e_seq ?_
      refine e_plain ?_
      refine e_assign rfl rfl ?_
      refine e_nil ?_
      refine e_ret ?_
      first | rw [if_pos hfin] | rw [if_neg hfin]
      exact ⟨_, rfl, .tmp rfl⟩
    · intro hc0
      exact absurd hc0 (by decide)
  · skip
    refine e_draw mixed (by kernel_rfl) ?_
    refine e_fld (0) und28 rfl siz24 rfl rfl rfl ?_
    refine e_ldC (i := 0) 0 und24 rfl siz24 rfl rfl rfl (by decide) rfl ⟨[], trivial⟩ ?_
    refine e_call rfl ent21 (dclamped_fn _) rfl rfl ?_
    refine e_fld (0) und28 rfl siz24 rfl rfl rfl ?_
    refine e_ldC (i := 0) 0 und24 rfl siz24 rfl rfl rfl (by decide) rfl ⟨[], trivial⟩ ?_
    refine e_neA und24 und23 siz23 eqg24 rfl rfl rfl ?_
    refine e_as (congrArg (fun z => Value.bool (!z)) hk0) ?_
    refine e_move rfl rfl ?_
    refine e_yes rfl rfl rfl ?_
    refine e_fld (4) und28 rfl siz25 rfl rfl rfl ?_
    refine e_yes rfl rfl rfl ?_
    refine e_ldC (i := 0) 2 und25 rfl siz25 rfl rfl rfl (by decide) rfl ⟨[], trivial⟩ ?_
    refine e_as (f3_of (w3_words ha0 ha1 ha2)).symm ?_
    refine e_yes rfl rfl rfl ?_
    refine e_call rfl ent22 (dbelow_fn (w3 a) (w3_lt192 ha0 ha1 ha2)) rfl rfl ?_
    refine e_yes rfl rfl rfl ?_
    refine e_not rfl rfl ?_
    refine e_as (congrArg (fun z => Value.bool (!z)) (decide_eq_false hk1)) ?_
    refine e_pickF rfl rfl rfl rfl ?_
    refine e_move rfl rfl ?_
    refine e_no rfl rfl (by decide) rfl ?_
    refine e_no rfl rfl (by decide) rfl ?_
    refine e_no rfl rfl (by decide) rfl ?_
    refine e_pickT rfl rfl rfl rfl ?_
    refine e_move rfl rfl ?_
    refine e_no rfl rfl (by decide) rfl ?_
    refine e_no rfl rfl (by decide) rfl ?_
    refine e_no rfl rfl (by decide) rfl ?_
    refine e_pickT rfl rfl rfl rfl ?_
    refine e_nil ?_
    refine e_cond rfl ?_ ?_
    · intro hc0
      have hfin := ok_no (d := okh n h 16) hko
      refine e_seq ?_
      refine e_plain ?_
      refine e_assign rfl rfl ?_
      refine e_nil ?_
      refine e_ret ?_
      first | rw [if_pos hfin] | rw [if_neg hfin]
      exact ⟨_, rfl, .tmp rfl⟩
    · intro hc0
      exact absurd hc0 (by decide)
  · skip
    refine e_draw mixed (by kernel_rfl) ?_
    refine e_fld (0) und28 rfl siz24 rfl rfl rfl ?_
    refine e_ldC (i := 0) 0 und24 rfl siz24 rfl rfl rfl (by decide) rfl ⟨[], trivial⟩ ?_
    refine e_call rfl ent21 (dclamped_fn _) rfl rfl ?_
    refine e_fld (0) und28 rfl siz24 rfl rfl rfl ?_
    refine e_ldC (i := 0) 0 und24 rfl siz24 rfl rfl rfl (by decide) rfl ⟨[], trivial⟩ ?_
    refine e_neA und24 und23 siz23 eqg24 rfl rfl rfl ?_
    refine e_as (congrArg (fun z => Value.bool (!z)) hk0) ?_
    refine e_move rfl rfl ?_
    refine e_yes rfl rfl rfl ?_
    refine e_fld (4) und28 rfl siz25 rfl rfl rfl ?_
    refine e_yes rfl rfl rfl ?_
    refine e_ldC (i := 0) 2 und25 rfl siz25 rfl rfl rfl (by decide) rfl ⟨[], trivial⟩ ?_
    refine e_as (f3_of (w3_words ha0 ha1 ha2)).symm ?_
    refine e_yes rfl rfl rfl ?_
    refine e_call rfl ent22 (dbelow_fn (w3 a) (w3_lt192 ha0 ha1 ha2)) rfl rfl ?_
    refine e_yes rfl rfl rfl ?_
    refine e_not rfl rfl ?_
    refine e_as (congrArg (fun z => Value.bool (!z)) (decide_eq_true hk1)) ?_
    refine e_pickF rfl rfl rfl rfl ?_
    refine e_move rfl rfl ?_
    refine e_yes rfl rfl rfl ?_
    refine e_fld (23) und28 rfl siz3 rfl rfl rfl ?_
    refine e_yes rfl rfl rfl ?_
    refine e_ldV1 (i := 0) 4 und3 rfl rfl rfl rfl (by decide) rfl ⟨[], trivial⟩ ?_
    refine e_yes rfl rfl rfl ?_
    refine e_lt rfl rfl rfl ?_
    refine e_as (congrArg Value.bool (decide_eq_true (by omega))) ?_
    refine e_pickF rfl rfl rfl rfl ?_
    refine e_move rfl rfl ?_
    refine e_no rfl rfl (by decide) rfl ?_
    refine e_no rfl rfl (by decide) rfl ?_
    refine e_no rfl rfl (by decide) rfl ?_
    refine e_pickT rfl rfl rfl rfl ?_
    refine e_nil ?_
    refine e_cond rfl ?_ ?_
    · intro hc0
      have hfin := ok_no (d := okh n h 16) hko
      refine e_seq ?_
      refine e_plain ?_
      refine e_assign rfl rfl ?_
      refine e_nil ?_
      refine e_ret ?_
      first | rw [if_pos hfin] | rw [if_neg hfin]
      exact ⟨_, rfl, .tmp rfl⟩
    · intro hc0
      exact absurd hc0 (by decide)
  · skip
    refine e_draw mixed (by kernel_rfl) ?_
    refine e_fld (0) und28 rfl siz24 rfl rfl rfl ?_
    refine e_ldC (i := 0) 0 und24 rfl siz24 rfl rfl rfl (by decide) rfl ⟨[], trivial⟩ ?_
    refine e_call rfl ent21 (dclamped_fn _) rfl rfl ?_
    refine e_fld (0) und28 rfl siz24 rfl rfl rfl ?_
    refine e_ldC (i := 0) 0 und24 rfl siz24 rfl rfl rfl (by decide) rfl ⟨[], trivial⟩ ?_
    refine e_neA und24 und23 siz23 eqg24 rfl rfl rfl ?_
    refine e_as (congrArg (fun z => Value.bool (!z)) hk0) ?_
    refine e_move rfl rfl ?_
    refine e_yes rfl rfl rfl ?_
    refine e_fld (4) und28 rfl siz25 rfl rfl rfl ?_
    refine e_yes rfl rfl rfl ?_
    refine e_ldC (i := 0) 2 und25 rfl siz25 rfl rfl rfl (by decide) rfl ⟨[], trivial⟩ ?_
    refine e_as (f3_of (w3_words ha0 ha1 ha2)).symm ?_
    refine e_yes rfl rfl rfl ?_
    refine e_call rfl ent22 (dbelow_fn (w3 a) (w3_lt192 ha0 ha1 ha2)) rfl rfl ?_
    refine e_yes rfl rfl rfl ?_
    refine e_not rfl rfl ?_
    refine e_as (congrArg (fun z => Value.bool (!z)) (decide_eq_true hk1)) ?_
    refine e_pickF rfl rfl rfl rfl ?_
    refine e_move rfl rfl ?_
    refine e_yes rfl rfl rfl ?_
    refine e_fld (23) und28 rfl siz3 rfl rfl rfl ?_
    refine e_yes rfl rfl rfl ?_
    refine e_ldV1 (i := 0) 4 und3 rfl rfl rfl rfl (by decide) rfl ⟨[], trivial⟩ ?_
    refine e_yes rfl rfl rfl ?_
    refine e_lt rfl rfl rfl ?_
    refine e_as (congrArg Value.bool (decide_eq_false (by omega))) ?_
    refine e_pickF rfl rfl rfl rfl ?_
    refine e_move rfl rfl ?_
    refine e_yes rfl rfl rfl ?_
    refine e_fld (23) und28 rfl siz3 rfl rfl rfl ?_
    refine e_yes rfl rfl rfl ?_
    refine e_ldV1 (i := 0) 4 und3 rfl rfl rfl rfl (by decide) rfl ⟨[], trivial⟩ ?_
    refine e_yes rfl rfl rfl ?_
    refine e_ge rfl rfl rfl ?_
    refine e_as (congrArg Value.bool (decide_eq_true (by omega))) ?_
    refine e_pickF rfl rfl rfl rfl ?_
    refine e_nil ?_
    refine e_cond rfl ?_ ?_
    · intro hc0
      have hfin := ok_no (d := okh n h 16) hko
      refine e_seq ?_
      refine e_plain ?_
      refine e_assign rfl rfl ?_
      refine e_nil ?_
      refine e_ret ?_
      first | rw [if_pos hfin] | rw [if_neg hfin]
      exact ⟨_, rfl, .tmp rfl⟩
    · intro hc0
      exact absurd hc0 (by decide)
  · skip
    refine e_draw mixed (by kernel_rfl) ?_
    refine e_fld (0) und28 rfl siz24 rfl rfl rfl ?_
    refine e_ldC (i := 0) 0 und24 rfl siz24 rfl rfl rfl (by decide) rfl ⟨[], trivial⟩ ?_
    refine e_call rfl ent21 (dclamped_fn _) rfl rfl ?_
    refine e_fld (0) und28 rfl siz24 rfl rfl rfl ?_
    refine e_ldC (i := 0) 0 und24 rfl siz24 rfl rfl rfl (by decide) rfl ⟨[], trivial⟩ ?_
    refine e_neA und24 und23 siz23 eqg24 rfl rfl rfl ?_
    refine e_as (congrArg (fun z => Value.bool (!z)) hk0) ?_
    refine e_move rfl rfl ?_
    refine e_yes rfl rfl rfl ?_
    refine e_fld (4) und28 rfl siz25 rfl rfl rfl ?_
    refine e_yes rfl rfl rfl ?_
    refine e_ldC (i := 0) 2 und25 rfl siz25 rfl rfl rfl (by decide) rfl ⟨[], trivial⟩ ?_
    refine e_as (f3_of (w3_words ha0 ha1 ha2)).symm ?_
    refine e_yes rfl rfl rfl ?_
    refine e_call rfl ent22 (dbelow_fn (w3 a) (w3_lt192 ha0 ha1 ha2)) rfl rfl ?_
    refine e_yes rfl rfl rfl ?_
    refine e_not rfl rfl ?_
    refine e_as (congrArg (fun z => Value.bool (!z)) (decide_eq_true hk1)) ?_
    refine e_pickF rfl rfl rfl rfl ?_
    refine e_move rfl rfl ?_
    refine e_yes rfl rfl rfl ?_
    refine e_fld (23) und28 rfl siz3 rfl rfl rfl ?_
    refine e_yes rfl rfl rfl ?_
    refine e_ldV1 (i := 0) 4 und3 rfl rfl rfl rfl (by decide) rfl ⟨[], trivial⟩ ?_
    refine e_yes rfl rfl rfl ?_
    refine e_lt rfl rfl rfl ?_
    refine e_as (congrArg Value.bool (decide_eq_false (by omega))) ?_
    refine e_pickF rfl rfl rfl rfl ?_
    refine e_move rfl rfl ?_
    refine e_yes rfl rfl rfl ?_
    refine e_fld (23) und28 rfl siz3 rfl rfl rfl ?_
    refine e_yes rfl rfl rfl ?_
    refine e_ldV1 (i := 0) 4 und3 rfl rfl rfl rfl (by decide) rfl ⟨[], trivial⟩ ?_
    refine e_yes rfl rfl rfl ?_
    refine e_ge rfl rfl rfl ?_
    refine e_as (congrArg Value.bool (decide_eq_false (by omega))) ?_
    refine e_pickF rfl rfl rfl rfl ?_
    refine e_nil ?_
    refine e_cond rfl ?_ ?_
    · intro hc0
      exact absurd hc0 (by decide)
    · intro hc0
      refine e_skip ?_
      refine e_seq ?_
      refine e_seq ?_
      refine e_plain ?_
      refine e_fld (7) und28 rfl siz26 rfl rfl rfl ?_
      refine e_fld (23) und28 rfl siz3 rfl rfl rfl ?_
      refine e_ldV1 (i := 0) 4 und3 rfl rfl rfl rfl (by decide) rfl ⟨[], trivial⟩ ?_
      refine e_sliceA k 16 und26 siz5 rfl rfl rfl ⟨_, rfl⟩ rfl (by omega) (by omega) (by omega) rfl ?_
      refine e_lenSl und33 rfl rfl rfl ?_
      refine e_move rfl rfl ?_
      refine e_nil ?_
      refine e_block ?_
      refine e_loopK [(30, _), (31, _)] [(0, _)] (fun kk E m => ∃ (i : Nat), kk = 16 - k - i ∧ E = [(32, ii i)] ∧ m = [] ∧ (i ≤ 16 - k) ∧ (∀ j, j < i → h (k + j) = 0)) [(32, ii 0)] [] (16 - k - 0) ⟨rfl, rfl, rfl, trivial⟩ ⟨rfl, trivial⟩ ⟨0, rfl, rfl, rfl, by omega, fun j hj => absurd hj (Nat.not_lt_zero j)⟩ ?_
      rintro kk E m ⟨i, rfl, rfl, rfl, hf0_0, hf0_1⟩
      simp only [catE, catL]
      refine e_seq ?_
      refine e_plain ?_
      refine e_lt rfl rfl rfl ?_
      refine e_nil ?_
      refine e_seq ?_
      refine e_cond rfl ?_ ?_
      · intro hc1
        have hc1 : i < 16 - k := by have := of_decide_eq_true hc1; omega
        refine e_skip ?_
        refine e_seq ?_
        refine e_block ?_
        refine e_seq ?_
        refine e_plain ?_
        refine e_atSl (7 + (k + i)) und33 siz5 rfl rfl (by omega) (by omega) rfl ?_
        refine e_ldI (i := 0) 3 (k + i) und5 rfl rfl rfl rfl (by first | rfl | omega) (by omega) (by omega) rfl ⟨[], trivial⟩ ?_
        refine e_assign rfl rfl ?_
        refine e_nil ?_
        refine e_seq ?_
        refine e_plain ?_
        refine e_move rfl rfl ?_
        refine e_ne rfl rfl rfl ?_
        refine e_nil ?_
        refine e_cond rfl ?_ ?_
        · intro hc2
          have hc2 := of_decide_eq_true hc2
          have hfin : ¬ (okcd r a (k : Int) && okh (k : Int) h 16) = true := by rw [okh_not hc1 (fun e => hc2 (by rw [e]; rfl))]; simp
          refine e_seq ?_
          refine e_plain ?_
          refine e_assign rfl rfl ?_
          refine e_nil ?_
          refine e_ret ?_
          first | rw [if_pos hfin] | rw [if_neg hfin]
          exact ⟨_, rfl, .tmp rfl⟩
        · intro hc2
          have hc2 := of_decide_eq_false hc2
          have hcz : h (k + i) = 0 := by omega
          refine e_skip ?_
          refine e_plain ?_
          refine e_add_i (q := 1) rfl rfl rfl (by omega) ?_
          refine e_move rfl rfl ?_
          refine e_nil ?_
          refine ⟨_, [(32, ii (i + 1))], [], ?_, ⟨rfl, rfl, rfl, trivial⟩, ⟨rfl, trivial⟩, i + 1, rfl, rfl, rfl, by omega, fun j hj => by by_cases e : j = i; exact e ▸ hcz; exact hf0_1 j (by omega)⟩
          omega
      · intro hc1
        have hc1 := of_decide_eq_false hc1
        have hz0 : i = 16 - k := by omega
        have hfin : (okcd r a (k : Int) && okh (k : Int) h 16) = true := by rw [hko, okh_all (by rw [← hz0]; exact hf0_1)]; rfl
        refine e_exit ?_
        refine e_seq ?_
        refine e_plain ?_
        refine e_assign rfl rfl ?_
        refine e_nil ?_
        refine e_ret ?_
        first | rw [if_pos hfin] | rw [if_neg hfin]
        exact ⟨_, rfl, .tmp rfl⟩

end Go.Proofs.Ytmnmhmpklknleaa

/-
  Walks, written by a program of ours off the loaded functions.
-/
namespace Go.Proofs.Ytmnmhmpklknleaa
open Go Go.RowKit


theorem ent28 : enters Try.prog 28 = true := by kernel_rfl
theorem ent30 : enters Try.prog 30 = true := by kernel_rfl

variable {G : Mem}

set_option maxHeartbeats 400000 in
theorem dadd_bad (r p a h : Nat → Nat) (n : Int) (v : Value) (ha0 : a 0 < 18446744073709551616) (ha1 : a 1 < 18446744073709551616) (ha2 : a 2 < 18446744073709551616) (hr0 : r 0 < 18446744073709551616) (hr1 : r 1 < 18446744073709551616) (hok : ¬ (okcd r a n && okh n h 16) = true) : Fn Try.prog G 13 #[PV r p a h n, v] (.tuple #[PV (fun _ => 0) (fun _ => 0) (fun _ => 0) (fun _ => 0) 0, ii 9]) := by
  refine fn2 (n := 37) Try.func13 rfl rfl (by simp) (argE [PV r p a h n, v] 0) (argE_ok _) ?_
  refine e_seq ?_
  refine e_plain ?_
  refine e_box 0 rfl rfl fun r1 => ?_
  refine e_alloc 1 zer28 rfl fun r2 => ?_
  refine e_assign rfl rfl ?_
  refine e_nil ?_
  refine e_seq ?_
  refine e_seq ?_
  refine e_plain ?_
  refine e_loadA (i := 0) und28 rfl siz28 rfl rfl (arrv_size _ _) rfl ⟨[], trivial⟩ ?_
  refine e_call rfl ent10 (dcheck_fn r p a h n ha0 ha1 ha2 hr0 hr1) rfl rfl ?_
  refine e_as (congrArg ii (if_neg hok)) ?_
  refine e_assign rfl rfl ?_
  refine e_nil ?_
  refine e_seq ?_
  refine e_plain ?_
  refine e_move rfl rfl ?_
  refine e_ne rfl rfl rfl ?_
  refine e_nil ?_
  refine e_cond rfl ?_ ?_
  · intro hc0
    refine e_seq ?_
    refine e_plain ?_
    refine e_buildS _ zer28 und28 pls28 rfl rfl rfl ?_
    refine e_move rfl rfl ?_
    refine e_storeA (i := 1) siz28 rfl rfl (arrv_size _ _) (cells_one ⟨fun _ => rfl, fun _ => rfl, fun _ => rfl, fun _ => rfl, fun _ => rfl, trivial⟩) rfl cells_sz (.inl rfl) ?_
    refine e_assign rfl rfl ?_
    refine e_nil ?_
    refine e_ret ?_
    exact ⟨_, _, rfl, .cell (i := 1) rfl rfl und28 rfl siz28 (arrv_size _ _), .tmp rfl⟩
  · intro hc0
    exact absurd hc0 (by decide)

set_option maxHeartbeats 4000000 in
theorem dadd_ok (r p : Nat → Nat) (A : Nat) (h : Nat → Nat) (n : Nat) (v : Value) (l : List Nat) (hv : Shows G 1 v l.length (l.map by8)) (hlb : ∀ b ∈ l, b < 256) (hA : A < 2 ^ 130) (hr0 : r 0 < 18446744073709551616) (hr1 : r 1 < 18446744073709551616) (hR : k3 r < 2 ^ 124) (hn : n < 16) (hh : ∀ j, j < 16 → h j < 256) (hz : ∀ j, n ≤ j → j < 16 → h j = 0) (hok : (okcd r (wd A) n && okh n h 16) = true) (hlen : l.length + 16 ≤ 9223372036854775807) : Fn Try.prog G 13 #[PV r p (wd A) h n, v] (.tuple #[PV r p (wd (accs (k3 r) A (sS h n l) ((sS h n l).length / 16))) (fun i => ((sS h n l).drop (16 * ((sS h n l).length / 16))).getD i 0) (((sS h n l).drop (16 * ((sS h n l).length / 16))).length : Int), ii 0]) := by
  have hSl := sS_len h n l
  have hSb := sS_lt (n := n) (fun j hj => hh j (by omega)) hlb
  have hwA := wd_lt A
  refine fn2 (n := 37) Try.func13 rfl rfl (by simp) (argE [PV r p (wd A) h n, v] 0) (argE_ok _) ?_
  refine e_seq ?_
  refine e_plain ?_
  refine e_box 0 rfl rfl fun r1 => ?_
  refine e_alloc 1 zer28 rfl fun r2 => ?_
  refine e_assign rfl rfl ?_
  refine e_nil ?_
  refine e_seq ?_
  refine e_seq ?_
  refine e_plain ?_
  refine e_loadA (i := 0) und28 rfl siz28 rfl rfl (arrv_size _ _) rfl ⟨[], trivial⟩ ?_
  refine e_call rfl ent10 (dcheck_fn r p (wd A) h n (hwA 0) (hwA 1) (hwA 2) hr0 hr1) rfl rfl ?_
  refine e_as (congrArg ii (if_pos hok)) ?_
  refine e_assign rfl rfl ?_
  refine e_nil ?_
  refine e_seq ?_
  refine e_plain ?_
  refine e_move rfl rfl ?_
  refine e_ne rfl rfl rfl ?_
  refine e_nil ?_
  refine e_cond rfl ?_ ?_
  · intro hc0
    exact absurd hc0 (by decide)
  · intro hc0
    refine e_skip ?_
    refine e_seq ?_
    refine e_seq ?_
    refine e_plain ?_
    refine e_move rfl rfl ?_
    refine e_lenV hv und33 rfl rfl rfl ?_
    refine e_move rfl rfl ?_
    refine e_nil ?_
    refine e_block ?_
    refine e_loopK [(2, _), (4, _), (5, _), (15, _), (16, _)] [(1, _)] (fun kk E m => ∃ (i : Nat) (ac : Nat) (g : Nat → Nat) (c : Nat), kk = l.length - i ∧ E = [(17, ii i)] ∧ m = [(0, some ⟨r1, cells 24 [pI .u64 2 r, pI .u64 2 p, pI .u64 3 (wd ac), pI .u8 16 g, pV (.int .i64 ((c : Nat) : Int))], 28⟩)] ∧ (i ≤ l.length) ∧ (ac = accs (k3 r) A (sS h n l) ((n + i) / 16)) ∧ (c = (n + i) % 16) ∧ (∀ j, j < 16 → g j = hold (sS h n l) (n + i) j)) [(17, ii 0)] [(0, some ⟨r1, cells 24 [pI .u64 2 r, pI .u64 2 p, pI .u64 3 (wd A), pI .u8 16 h, pV (.int .i64 ((n : Nat) : Int))], 28⟩)] (l.length - 0) ⟨rfl, rfl, rfl, rfl, rfl, rfl, trivial⟩ ⟨rfl, rfl, trivial⟩ ⟨0, A, h, n, rfl, rfl, rfl, by omega, by rw [show (n + 0) / 16 = 0 by omega]; rfl, by omega, hold_first hn hz⟩ ?_
    rintro kk E m ⟨i, ac, g, c, rfl, rfl, rfl, hf0_0, hf0_1, hf0_2, hf0_3⟩
    simp only [catE, catL]
    have hac : ac < 2 ^ 130 := by rw [hf0_1]; exact accs_lt hA _
    refine e_seq ?_
    refine e_plain ?_
    refine e_lt rfl rfl rfl ?_
    refine e_nil ?_
    refine e_seq ?_
    refine e_cond rfl ?_ ?_
    · intro hc1
      have hc1 : i < l.length := by have := of_decide_eq_true hc1; omega
      refine e_skip ?_
      refine e_seq ?_
      refine e_block ?_
      refine e_seq ?_
      refine e_plain ?_
      refine e_atV hv und33 siz5 rfl rfl (by omega) rfl ?_
      refine e_as (congrArg (slAddr _) (Nat.mul_one _)) ?_
      refine e_loadV hv seenG und5 rfl rfl (nth_by8 hc1) rfl ?_
      refine e_assign rfl rfl ?_
      refine e_nil ?_
      refine e_seq ?_
      refine e_plain ?_
      refine e_fld (23) und28 rfl siz3 rfl rfl rfl ?_
      refine e_ldV1 (i := 0) 4 und3 rfl rfl rfl rfl (by decide) rfl ⟨[], trivial⟩ ?_
      refine e_move rfl rfl ?_
      refine e_fld (7) und28 rfl siz26 rfl rfl rfl ?_
      refine e_at (7 + c) und26 siz5 rfl rfl (by omega) (by omega) rfl ?_
      refine e_stI (i := 0) 3 (c) siz5 rfl rfl rfl rfl (by first | rfl | omega) (by omega) (by omega) (.inl rfl) ?_
      refine e_nil ?_
      refine e_seq ?_
      refine e_plain ?_
      refine e_fld (23) und28 rfl siz3 rfl rfl rfl ?_
      refine e_ldV1 (i := 0) 4 und3 rfl rfl rfl rfl (by decide) rfl ⟨[], trivial⟩ ?_
      refine e_add_i (q := 1) rfl rfl rfl (by omega) ?_
      refine e_fld (23) und28 rfl siz3 rfl rfl rfl ?_
      refine e_stV (i := 0) 4 siz3 rfl rfl rfl rfl rfl (by decide) (.inl rfl) ?_
      refine e_nil ?_
      refine e_seq ?_
      refine e_plain ?_
      refine e_fld (23) und28 rfl siz3 rfl rfl rfl ?_
      refine e_ldV1 (i := 0) 4 und3 rfl rfl rfl rfl (by decide) rfl ⟨[], trivial⟩ ?_
      refine e_eq rfl rfl rfl ?_
      refine e_nil ?_
      refine e_cond rfl ?_ ?_
      · intro hc2
        have hc2 := of_decide_eq_true hc2
        have hc16 : c + 1 = 16 := by omega
        refine e_plain ?_
        refine e_loadA (i := 0) und28 rfl siz28 rfl rfl (arrv_size _ _) rfl ⟨[], trivial⟩ ?_
        refine e_as (show _ = PV r p (wd ac) (upd g c l[i]) ((c + 1 : Nat) : Int) from rfl) ?_
        refine e_call rfl ent28 (dtake_fn r p ac (upd g c l[i]) (c + 1) hr0 hr1 hR hac (by omega) (fun j hj => by unfold upd; split; exact hlb _ (List.getElem_mem hc1); rw [hf0_3 j hj]; exact hold_lt hSb _ _) (fun j h1 h2 => absurd h2 (by omega))) rfl rfl ?_
        refine e_storeA (i := 0) siz28 rfl rfl (arrv_size _ _) (cells_one ⟨fun _ => rfl, fun _ => rfl, fun _ => rfl, fun _ => rfl, fun _ => rfl, trivial⟩) rfl cells_sz (.inl rfl) ?_
        refine e_nil ?_
        refine e_plain ?_
        refine e_add_i (q := 1) rfl rfl rfl (by omega) ?_
        refine e_move rfl rfl ?_
        refine e_nil ?_
        refine ⟨_, [(17, ii (i + 1))], [(0, some ⟨r1, cells 24 [pI .u64 2 r, pI .u64 2 p, pI .u64 3 (wd _), pI .u8 16 _, pV (.int .i64 ((_ : Nat) : Int))], 28⟩)], ?_, ⟨rfl, rfl, rfl, rfl, rfl, rfl, trivial⟩, ⟨rfl, rfl, trivial⟩, i + 1, _, _, _, rfl, rfl, rfl, by omega, (by first | exact accs_stay (T := n + i) (by omega) hf0_1 | exact accs_step (T := n + i) (by omega) hf0_1 (by rw [hc16, hf0_2]; exact hold_full (T := n + i) (by omega) (by omega) (sS_at hc1) hf0_3)), by omega, (by first | exact hold_zero (T := n + i) (by omega) | (rw [hf0_2]; exact hold_next (T := n + i) (by omega) (sS_at hc1) hf0_3))⟩
        omega
      · intro hc2
        have hc2 := of_decide_eq_false hc2
        refine e_skip ?_
        refine e_plain ?_
        refine e_add_i (q := 1) rfl rfl rfl (by omega) ?_
        refine e_move rfl rfl ?_
        refine e_nil ?_
        refine ⟨_, [(17, ii (i + 1))], [(0, some ⟨r1, cells 24 [pI .u64 2 r, pI .u64 2 p, pI .u64 3 (wd _), pI .u8 16 _, pV (.int .i64 ((_ : Nat) : Int))], 28⟩)], ?_, ⟨rfl, rfl, rfl, rfl, rfl, rfl, trivial⟩, ⟨rfl, rfl, trivial⟩, i + 1, _, _, _, rfl, rfl, rfl, by omega, (by first | exact accs_stay (T := n + i) (by omega) hf0_1 | exact accs_step (T := n + i) (by omega) hf0_1 (by rw [hc16, hf0_2]; exact hold_full (T := n + i) (by omega) (by omega) (sS_at hc1) hf0_3)), by omega, (by first | exact hold_zero (T := n + i) (by omega) | (rw [hf0_2]; exact hold_next (T := n + i) (by omega) (sS_at hc1) hf0_3))⟩
        omega
    · intro hc1
      have hc1 := of_decide_eq_false hc1
      have hz0 : i = l.length := by omega
      refine e_exit ?_
      refine e_seq ?_
      refine e_plain ?_
      refine e_loadA (i := 0) und28 rfl siz28 rfl rfl (arrv_size _ _) rfl ⟨[], trivial⟩ ?_
      refine e_as (Eq.trans (show _ = PV r p (wd ac) g ((c : Nat) : Int) from rfl) (show _ = PV r p (wd (accs (k3 r) A (sS h n l) ((sS h n l).length / 16))) (fun i => ((sS h n l).drop (16 * ((sS h n l).length / 16))).getD i 0) (((sS h n l).drop (16 * ((sS h n l).length / 16))).length : Int) from PV_congr (fun _ _ => rfl) (fun _ _ => rfl) (fun _ _ => by rw [hf0_1, hSl, hz0]) (hold_end (by rw [hSl, ← hz0]; exact hf0_3)) (by rw [List.length_drop]; omega))) ?_
      refine e_storeA (i := 1) siz28 rfl rfl (arrv_size _ _) (cells_one ⟨fun _ => rfl, fun _ => rfl, fun _ => rfl, fun _ => rfl, fun _ => rfl, trivial⟩) rfl cells_sz (.inl rfl) ?_
      refine e_assign rfl rfl ?_
      refine e_nil ?_
      refine e_ret ?_
      exact ⟨_, _, rfl, .cell (i := 1) rfl rfl und28 rfl siz28 (arrv_size _ _), .tmp rfl⟩

set_option maxHeartbeats 400000 in
theorem dend_bad (r p a h : Nat → Nat) (n : Int) (ha0 : a 0 < 18446744073709551616) (ha1 : a 1 < 18446744073709551616) (ha2 : a 2 < 18446744073709551616) (hr0 : r 0 < 18446744073709551616) (hr1 : r 1 < 18446744073709551616) (hok : ¬ (okcd r a n && okh n h 16) = true) : Fn Try.prog G 15 #[PV r p a h n] (.tuple #[.agg (arr .u8 16 (fun _ => 0)), ii 9]) := by
  refine fn2 (n := 18) Try.func15 rfl rfl (by simp) (argE [PV r p a h n] 0) (argE_ok _) ?_
  refine e_seq ?_
  refine e_plain ?_
  refine e_box 0 rfl rfl fun r1 => ?_
  refine e_alloc 1 zer26 rfl fun r2 => ?_
  refine e_assign rfl rfl ?_
  refine e_nil ?_
  refine e_seq ?_
  refine e_seq ?_
  refine e_plain ?_
  refine e_loadA (i := 0) und28 rfl siz28 rfl rfl (arrv_size _ _) rfl ⟨[], trivial⟩ ?_
  refine e_call rfl ent10 (dcheck_fn r p a h n ha0 ha1 ha2 hr0 hr1) rfl rfl ?_
  refine e_as (congrArg ii (if_neg hok)) ?_
  refine e_assign rfl rfl ?_
  refine e_nil ?_
  refine e_seq ?_
  refine e_plain ?_
  refine e_move rfl rfl ?_
  refine e_ne rfl rfl rfl ?_
  refine e_nil ?_
  refine e_cond rfl ?_ ?_
  · intro hc0
    refine e_seq ?_
    refine e_plain ?_
    refine e_build0 zer26 und26 sis5 rfl ?_
    refine e_move rfl rfl ?_
    refine e_storeA (i := 1) siz26 rfl rfl (arr_size _ _ _) arr_one rfl (arr_sz _ _ _ _ _) (.inl rfl) ?_
    refine e_assign rfl rfl ?_
    refine e_nil ?_
    refine e_ret ?_
    exact ⟨_, _, rfl, .cell (i := 1) rfl rfl und26 rfl siz26 (arr_size _ _ _), .tmp rfl⟩
  · intro hc0
    exact absurd hc0 (by decide)

set_option maxHeartbeats 4000000 in
theorem dend_zero (r p : Nat → Nat) (A : Nat) (h : Nat → Nat) (n : Nat) (hr0 : r 0 < 18446744073709551616) (hr1 : r 1 < 18446744073709551616) (hp0 : p 0 < 18446744073709551616) (hp1 : p 1 < 18446744073709551616) (hn : n = 0) (hok : (okcd r (wd A) n && okh n h 16) = true) : Fn Try.prog G 15 #[PV r p (wd A) h n] (.tuple #[.agg (arr .u8 16 (tgn (k3 (wd A)) (k3 p))), ii 0]) := by
  have hwA := wd_lt A
  refine fn2 (n := 18) Try.func15 rfl rfl (by simp) (argE [PV r p (wd A) h n] 0) (argE_ok _) ?_
  refine e_seq ?_
  refine e_plain ?_
  refine e_box 0 rfl rfl fun r1 => ?_
  refine e_alloc 1 zer26 rfl fun r2 => ?_
  refine e_assign rfl rfl ?_
  refine e_nil ?_
  refine e_seq ?_
  refine e_seq ?_
  refine e_plain ?_
  refine e_loadA (i := 0) und28 rfl siz28 rfl rfl (arrv_size _ _) rfl ⟨[], trivial⟩ ?_
  refine e_call rfl ent10 (dcheck_fn r p (wd A) h n (hwA 0) (hwA 1) (hwA 2) hr0 hr1) rfl rfl ?_
  refine e_as (congrArg ii (if_pos hok)) ?_
  refine e_assign rfl rfl ?_
  refine e_nil ?_
  refine e_seq ?_
  refine e_plain ?_
  refine e_move rfl rfl ?_
  refine e_ne rfl rfl rfl ?_
  refine e_nil ?_
  refine e_cond rfl ?_ ?_
  · intro hc0
    exact absurd hc0 (by decide)
  · intro hc0
    refine e_skip ?_
    refine e_seq ?_
    refine e_seq ?_
    refine e_plain ?_
    refine e_fld (23) und28 rfl siz3 rfl rfl rfl ?_
    refine e_ldV1 (i := 0) 4 und3 rfl rfl rfl rfl (by decide) rfl ⟨[], trivial⟩ ?_
    refine e_gt rfl rfl rfl ?_
    refine e_nil ?_
    refine e_cond rfl ?_ ?_
    · intro hc1
      exact absurd (of_decide_eq_true hc1) (by omega)
    · intro hc1
      refine e_skip ?_
      refine e_seq ?_
      refine e_plain ?_
      refine e_loadA (i := 0) und28 rfl siz28 rfl rfl (arrv_size _ _) rfl ⟨[], trivial⟩ ?_
      refine e_call rfl ent30 (dpad_fn r p A h n hp0 hp1) rfl rfl ?_
      refine e_storeA (i := 1) siz26 rfl rfl (arr_size _ _ _) arr_one rfl (arr_sz _ _ _ _ _) (.inl rfl) ?_
      refine e_assign rfl rfl ?_
      refine e_nil ?_
      refine e_ret ?_
      exact ⟨_, _, rfl, .cell (i := 1) rfl rfl und26 rfl siz26 (arr_size _ _ _), .tmp rfl⟩

set_option maxHeartbeats 4000000 in
theorem dend_some (r p : Nat → Nat) (A : Nat) (h : Nat → Nat) (n : Nat) (hr0 : r 0 < 18446744073709551616) (hr1 : r 1 < 18446744073709551616) (hp0 : p 0 < 18446744073709551616) (hp1 : p 1 < 18446744073709551616) (hR : k3 r < 2 ^ 124) (hA : A < 2 ^ 130) (hh : ∀ j, j < 16 → h j < 256) (hz : ∀ j, n ≤ j → j < 16 → h j = 0) (hn : 0 < n) (hn2 : n < 16) (hok : (okcd r (wd A) n && okh n h 16) = true) : Fn Try.prog G 15 #[PV r p (wd A) h n] (.tuple #[.agg (arr .u8 16 (tgn (k3 (wd (pst (k3 r) A ((List.range n).map h)))) (k3 p))), ii 0]) := by
  have hwA := wd_lt A
  refine fn2 (n := 18) Try.func15 rfl rfl (by simp) (argE [PV r p (wd A) h n] 0) (argE_ok _) ?_
  refine e_seq ?_
  refine e_plain ?_
  refine e_box 0 rfl rfl fun r1 => ?_
  refine e_alloc 1 zer26 rfl fun r2 => ?_
  refine e_assign rfl rfl ?_
  refine e_nil ?_
  refine e_seq ?_
  refine e_seq ?_
  refine e_plain ?_
  refine e_loadA (i := 0) und28 rfl siz28 rfl rfl (arrv_size _ _) rfl ⟨[], trivial⟩ ?_
  refine e_call rfl ent10 (dcheck_fn r p (wd A) h n (hwA 0) (hwA 1) (hwA 2) hr0 hr1) rfl rfl ?_
  refine e_as (congrArg ii (if_pos hok)) ?_
  refine e_assign rfl rfl ?_
  refine e_nil ?_
  refine e_seq ?_
  refine e_plain ?_
  refine e_move rfl rfl ?_
  refine e_ne rfl rfl rfl ?_
  refine e_nil ?_
  refine e_cond rfl ?_ ?_
  · intro hc0
    exact absurd hc0 (by decide)
  · intro hc0
    refine e_skip ?_
    refine e_seq ?_
    refine e_seq ?_
    refine e_plain ?_
    refine e_fld (23) und28 rfl siz3 rfl rfl rfl ?_
    refine e_ldV1 (i := 0) 4 und3 rfl rfl rfl rfl (by decide) rfl ⟨[], trivial⟩ ?_
    refine e_gt rfl rfl rfl ?_
    refine e_nil ?_
    refine e_cond rfl ?_ ?_
    · intro hc1
      refine e_plain ?_
      refine e_loadA (i := 0) und28 rfl siz28 rfl rfl (arrv_size _ _) rfl ⟨[], trivial⟩ ?_
      refine e_call rfl ent28 (dtake_fn r p A h n hr0 hr1 hR hA (by omega) hh hz) rfl rfl ?_
      refine e_storeA (i := 0) siz28 rfl rfl (arrv_size _ _) (cells_one ⟨fun _ => rfl, fun _ => rfl, fun _ => rfl, fun _ => rfl, fun _ => rfl, trivial⟩) rfl cells_sz (.inl rfl) ?_
      refine e_nil ?_
      refine e_seq ?_
      refine e_plain ?_
      refine e_loadA (i := 0) und28 rfl siz28 rfl rfl (arrv_size _ _) rfl ⟨[], trivial⟩ ?_
      refine e_call rfl ent30 (dpad_fn r p (pst (k3 r) A ((List.range n).map h)) (fun _ => 0) ((0 : Nat) : Int) hp0 hp1) rfl rfl ?_
      refine e_storeA (i := 1) siz26 rfl rfl (arr_size _ _ _) arr_one rfl (arr_sz _ _ _ _ _) (.inl rfl) ?_
      refine e_assign rfl rfl ?_
      refine e_nil ?_
      refine e_ret ?_
      exact ⟨_, _, rfl, .cell (i := 1) rfl rfl und26 rfl siz26 (arr_size _ _ _), .tmp rfl⟩
    · intro hc1
      exact absurd (of_decide_eq_false hc1) (by omega)

end Go.Proofs.Ytmnmhmpklknleaa
