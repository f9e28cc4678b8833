/-
  Walks, written by a program of ours off the loaded functions.
-/
import Derived.Test.YtkoigikldikmmaaDoorR1
namespace Go.Proofs.YtkoigikldikmmaaDoor
open Go Go.RowKit


theorem ent23 : enters Tryd.prog 23 = true := by kernel_rfl
theorem ent24 : enters Tryd.prog 24 = true := by kernel_rfl
theorem ent25 : enters Tryd.prog 25 = true := by kernel_rfl
theorem ent26 : enters Tryd.prog 26 = true := by kernel_rfl
theorem ent27 : enters Tryd.prog 27 = true := by kernel_rfl
theorem ent36 : enters Tryd.prog 36 = true := by kernel_rfl

variable {G : Mem}

set_option maxHeartbeats 400000 in
theorem in_fn (a : Nat) (ha : a < 2 ^ 256) : Fn Tryd.prog [⟨0, arr .u64 16 (d16 PP), 42⟩] 23 #[fe a] (.bool (decide (a < PP))) := by
  refine fn1 (n := 7) Tryd.func23 rfl rfl (by simp) (argE [fe a] 0) (argE_ok _) ?_
  refine e_seq ?_
  refine e_plain ?_
  refine e_box 0 rfl rfl fun r1 => ?_
  refine e_assign rfl rfl ?_
  refine e_nil ?_
  refine e_seq ?_
  refine e_plain ?_
  refine e_loadA (i := 0) und24 rfl siz24 rfl rfl (arr_size _ _ _) rfl ?_
  refine e_call rfl ent24 (of_fn _) rfl ?_
  refine e_call rfl ent35 (notBelow_fn (d16 a) (fun j _ => d16_lt a j)) rfl ?_
  refine e_not rfl rfl ?_
  refine e_as (congrArg Value.bool (in_bool a ha)) ?_
  refine e_assign rfl rfl ?_
  refine e_nil ?_
  refine e_ret ?_
  exact ⟨_, rfl, .tmp rfl⟩

set_option maxHeartbeats 400000 in
theorem sum_fn (x y : Nat) (hx : x < 2 ^ 256) (hy : y < 2 ^ 256) : Fn Tryd.prog [⟨0, arr .u64 16 (d16 PP), 42⟩] 26 #[dg x, dg y] (dg ((x + y) % PP)) := by
  refine fn1 (n := 20) Tryd.func26 rfl rfl (by simp) (argE [dg x, dg y] 0) (argE_ok _) ?_
  refine e_seq ?_
  refine e_plain ?_
  refine e_box 0 rfl rfl fun r1 => ?_
  refine e_box 1 rfl rfl fun r2 => ?_
  refine e_alloc 2 zer42 rfl fun r3 => ?_
  refine e_nil ?_
  refine e_seq ?_
  refine e_seq ?_
  refine e_plain ?_
  refine e_move rfl rfl ?_
  refine e_nil ?_
  refine e_block ?_
  refine e_loop (fun kk E m => ∃ (k : Nat) (s : Nat → Nat), kk = 16 - k ∧ E = [(2, ptr r1), (3, ptr r2), (4, ptr r3), (6, ii k)] ∧ m = [(0, ⟨r1, arr .u64 16 s, 42⟩), (1, ⟨r2, arr .u64 16 (d16 y), 42⟩), (2, ⟨r3, arr .u64 16 (fun _ => 0), 42⟩)] ∧ (k ≤ 16) ∧ (∀ t, t < k → s t = d16 x t + d16 y t) ∧ (∀ t, k ≤ t → s t = d16 x t)) [(2, ptr r1), (3, ptr r2), (4, ptr r3), (6, ii 0)] [(0, ⟨r1, arr .u64 16 (d16 x), 42⟩), (1, ⟨r2, arr .u64 16 (d16 y), 42⟩), (2, ⟨r3, arr .u64 16 (fun _ => 0), 42⟩)] (16 - 0) ⟨rfl, rfl, rfl, rfl, trivial⟩ ⟨rfl, rfl, rfl, trivial⟩ ⟨0, d16 x, rfl, rfl, rfl, by omega, fun t ht => absurd ht (Nat.not_lt_zero t), fun t _ => rfl⟩ ?_
  rintro kk E m ⟨k, s, rfl, rfl, rfl, hf0_0, hf0_1, hf0_2⟩
  have hsk : s k = d16 x k := hf0_2 k (Nat.le_refl k)
  have h1 := d16_lt x k
  have h2 := d16_lt y k
  refine e_seq ?_
  refine e_plain ?_
  refine e_lt rfl rfl rfl ?_
  refine e_nil ?_
  refine e_seq ?_
  refine e_cond rfl ?_ ?_
  · intro hc0
    have hc0 := of_decide_eq_true hc0
    refine e_skip ?_
    refine e_seq ?_
    refine e_block ?_
    refine e_seq ?_
    refine e_plain ?_
    refine e_move rfl rfl ?_
    refine e_assign rfl rfl ?_
    refine e_nil ?_
    refine e_draw mixed (by kernel_rfl) ?_
    refine e_move rfl rfl ?_
    refine e_index0 und42 siz22 rfl rfl (by omega) rfl ?_
    refine e_load1 (i := 0) und22 rfl rfl rfl (arr_get (by omega)) rfl ?_
    refine e_move rfl rfl ?_
    refine e_index0 und42 siz22 rfl rfl (by omega) rfl ?_
    refine e_load1 (i := 1) und22 rfl rfl rfl (arr_get (by omega)) rfl ?_
    refine e_add_u rfl rfl rfl  ?_
    refine e_as (congrArg u (add_form (s k) (d16 y k) (by omega) (by omega))) ?_
    refine e_index0 und42 siz22 rfl rfl (by omega) rfl ?_
    refine e_storeN (i := 0) siz22 rfl rfl rfl (by omega) ?_
    refine e_nil ?_
    refine e_plain ?_
    refine e_add_i (q := 1) rfl rfl rfl (by omega) ?_
    refine e_move rfl rfl ?_
    refine e_nil ?_
    refine ⟨_, [(2, ptr r1), (3, ptr r2), (4, ptr r3), (6, ii (k + 1))], [(0, ⟨r1, arr .u64 16 (upd s k (s k + d16 y k)), 42⟩), (1, ⟨r2, arr .u64 16 (d16 y), 42⟩), (2, ⟨r3, arr .u64 16 (fun _ => 0), 42⟩)], ?_, ⟨rfl, rfl, rfl, rfl, trivial⟩, ⟨rfl, rfl, rfl, trivial⟩, k + 1, upd s k (s k + d16 y k), rfl, rfl, rfl, by omega, upd_lt (g := fun t => d16 x t + d16 y t) hf0_1 (by rw [hf0_2 k (Nat.le_refl k)]), upd_ge hf0_2⟩
    omega
  · intro hc0
    have hc0 := of_decide_eq_false hc0
    have hk : k = 16 := by omega
    subst hk
    refine e_exit ?_
    refine e_seq ?_
    refine e_plain ?_
    refine e_loadA (i := 0) und42 rfl siz42 rfl rfl (arr_size _ _ _) rfl ?_
    refine e_call rfl ent36 (carried_fn s (fun j hj => by rw [hf0_1 j hj]; have := d16_lt x j; have := d16_lt y j; omega)) rfl ?_
    refine e_storeA (i := 2) siz42 rfl rfl (arr_size _ _ _) arr_one rfl (arr_sz _ _ _ _ _) ?_
    refine e_nil ?_
    refine e_ret ?_
    rw [show (x + y) % PP = vs s 16 % PP by rw [vs_add 16 hf0_1, vs_dg x hx, vs_dg y hy]]
    exact ⟨_, rfl, .cell (i := 2) rfl rfl und42 rfl siz42 (arr_size _ _ _)⟩

set_option maxHeartbeats 400000 in
theorem opp_fn (x : Nat) (hx : x ≤ PP) : Fn Tryd.prog [⟨0, arr .u64 16 (d16 PP), 42⟩] 27 #[dg x] (dg ((PP - x) % PP)) := by
  have hx2 : x < 2 ^ 256 := Nat.lt_of_le_of_lt hx (by decide)
  refine fn1 (n := 29) Tryd.func27 rfl rfl (by simp) (argE [dg x] 0) (argE_ok _) ?_
  refine e_seq ?_
  refine e_plain ?_
  refine e_box 0 rfl rfl fun r1 => ?_
  refine e_alloc 1 zer42 rfl fun r2 => ?_
  refine e_nil ?_
  refine e_seq ?_
  refine e_plain ?_
  refine e_assign rfl rfl ?_
  refine e_nil ?_
  refine e_seq ?_
  refine e_seq ?_
  refine e_plain ?_
  refine e_move rfl rfl ?_
  refine e_nil ?_
  refine e_block ?_
  refine e_loop (fun kk E m => ∃ (j : Nat) (s : Nat → Nat) (c : Nat), kk = 16 - j ∧ E = [(1, ptr r1), (2, ptr r2), (3, u c), (6, ii j)] ∧ m = [(0, ⟨r1, arr .u64 16 s, 42⟩), (1, ⟨r2, arr .u64 16 (fun _ => 0), 42⟩)] ∧ (j ≤ 16) ∧ (∀ t, t < j → s t < 65536) ∧ (∀ t, j ≤ t → s t = d16 x t) ∧ (c ≤ 1) ∧ (vs s j + vs (d16 x) j = vs (d16 PP) j + c * 2 ^ (16 * j))) [(1, ptr r1), (2, ptr r2), (3, u 0), (6, ii 0)] [(0, ⟨r1, arr .u64 16 (d16 x), 42⟩), (1, ⟨r2, arr .u64 16 (fun _ => 0), 42⟩)] (16 - 0) ⟨rfl, rfl, rfl, rfl, trivial⟩ ⟨rfl, rfl, trivial⟩ ⟨0, d16 x, 0, rfl, rfl, rfl, by omega, fun t ht => absurd ht (Nat.not_lt_zero t), fun t _ => rfl, by decide, by simp [vs]⟩ ?_
  rintro kk E m ⟨j, s, c, rfl, rfl, rfl, hf0_0, hf0_1, hf0_2, hf0_3, hf0_4⟩
  have hpd := d16_lt PP j
  have hxd := d16_lt x j
  have hs4 : s j = d16 x j := hf0_2 j (Nat.le_refl j)
  refine e_seq ?_
  refine e_plain ?_
  refine e_lt rfl rfl rfl ?_
  refine e_nil ?_
  refine e_seq ?_
  refine e_cond rfl ?_ ?_
  · intro hc0
    have hc0 := of_decide_eq_true hc0
    refine e_skip ?_
    refine e_seq ?_
    refine e_block ?_
    refine e_seq ?_
    refine e_plain ?_
    refine e_move rfl rfl ?_
    refine e_assign rfl rfl ?_
    refine e_nil ?_
    refine e_seq ?_
    refine e_draw mixed (by kernel_rfl) ?_
    refine e_move rfl rfl ?_
    refine e_index0 und42 siz22 rfl rfl (by omega) rfl ?_
    refine e_load1g (i := 0) und22 rfl rfl rfl (arr_get (by omega)) rfl ?_
    refine e_add_u (q := 65536) rfl rfl rfl  ?_
    refine e_move rfl rfl ?_
    refine e_index0 und42 siz22 rfl rfl (by omega) rfl ?_
    refine e_load1 (i := 0) und22 rfl rfl rfl (arr_get (by omega)) rfl ?_
    refine e_as (congrArg u hs4) ?_
    refine e_sub_u rfl rfl rfl (by omega) ?_
    refine e_move rfl rfl ?_
    refine e_sub_u rfl rfl rfl (by omega) ?_
    refine e_as (congrArg u (bor_form (d16 PP j) (d16 x j) c (by omega) (by omega) (by omega))) ?_
    refine e_assign rfl rfl ?_
    refine e_nil ?_
    refine e_plain ?_
    refine e_move rfl rfl ?_
    refine e_move rfl rfl ?_
    refine e_rem_u (q := 65536) rfl rfl rfl (by omega) ?_
    refine e_move rfl rfl ?_
    refine e_quo_u (q := 65536) rfl rfl rfl (by omega) (by omega) ?_
    refine e_sub_u (p := 1) rfl rfl rfl (by omega) ?_
    refine e_as (congrArg u (bor_form2 _ (by omega))) ?_
    refine e_index0 und42 siz22 rfl rfl (by omega) rfl ?_
    refine e_storeN (i := 0) siz22 rfl rfl rfl (by omega) ?_
    refine e_assign rfl rfl ?_
    refine e_nil ?_
    refine e_plain ?_
    refine e_add_i (q := 1) rfl rfl rfl (by omega) ?_
    refine e_move rfl rfl ?_
    refine e_nil ?_
    refine ⟨_, [(1, ptr r1), (2, ptr r2), (3, u (1 - (d16 PP j + 65536 - d16 x j - c) / 65536)), (6, ii (j + 1))], [(0, ⟨r1, arr .u64 16 (upd s j ((d16 PP j + 65536 - d16 x j - c) % 65536)), 42⟩), (1, ⟨r2, arr .u64 16 (fun _ => 0), 42⟩)], ?_, ⟨rfl, rfl, rfl, rfl, trivial⟩, ⟨rfl, rfl, trivial⟩, j + 1, upd s j ((d16 PP j + 65536 - d16 x j - c) % 65536), 1 - (d16 PP j + 65536 - d16 x j - c) / 65536, rfl, rfl, rfl, by omega, digit_lt hf0_1 (Nat.mod_lt _ (by decide)), keep_ge hf0_2, by omega, borrow_next hf0_3 (d16_lt PP j) (d16_lt x j) hf0_4⟩
    omega
  · intro hc0
    have hc0 := of_decide_eq_false hc0
    have hj : j = 16 := by omega
    subst hj
    have hof := opp_fin (s := d16 x) hf0_1 (by rw [vs_dg x hx2]; exact hx) hf0_4 hf0_3
    rw [vs_dg x hx2] at hof
    refine e_exit ?_
    refine e_seq ?_
    refine e_plain ?_
    refine e_loadA (i := 0) und42 rfl siz42 rfl rfl (arr_size _ _ _) rfl ?_
    refine e_call rfl ent36 (carried_fn s (fun t ht => Nat.lt_trans (hf0_1 t ht) (by decide))) rfl ?_
    refine e_storeA (i := 1) siz42 rfl rfl (arr_size _ _ _) arr_one rfl (arr_sz _ _ _ _ _) ?_
    refine e_nil ?_
    refine e_ret ?_
    rw [← hof]
    exact ⟨_, rfl, .cell (i := 1) rfl rfl und42 rfl siz42 (arr_size _ _ _)⟩

set_option maxHeartbeats 400000 in
theorem reck1_ok (a b : Nat) (ha : a < PP) (hb : b < PP) : Fn Tryd.prog [⟨0, arr .u64 16 (d16 PP), 42⟩] 9 #[ii 1, fe a, fe b] (.tuple #[fe ((a + b) % PP), ii 0]) := by
  have hPP := PP_eq
  have hm1 := Nat.mod_lt (PP - b) PP_pos
  refine fn2 (n := 41) Tryd.func9 rfl rfl (by simp) (argE [ii 1, fe a, fe b] 0) (argE_ok _) ?_
  refine e_seq ?_
  refine e_plain ?_
  refine e_box 0 rfl rfl fun r1 => ?_
  refine e_box 1 rfl rfl fun r2 => ?_
  refine e_alloc 2 zer24 rfl fun r3 => ?_
  refine e_assign rfl rfl ?_
  refine e_nil ?_
  refine e_seq ?_
  refine e_seq ?_
  refine e_plain ?_
  refine e_loadA (i := 0) und24 rfl siz24 rfl rfl (arr_size _ _ _) rfl ?_
  refine e_call rfl ent23 (in_fn _ (by omega)) rfl ?_
  refine e_not rfl rfl ?_
  refine e_as (congrArg Value.bool (show (!decide (a < PP)) = false by simp [ha])) ?_
  refine e_move rfl rfl ?_
  refine e_yes rfl rfl rfl ?_
  refine e_loadA (i := 1) und24 rfl siz24 rfl rfl (arr_size _ _ _) rfl ?_
  refine e_yes rfl rfl rfl ?_
  refine e_call rfl ent23 (in_fn _ (by omega)) rfl ?_
  refine e_yes rfl rfl rfl ?_
  refine e_not rfl rfl ?_
  refine e_as (congrArg Value.bool (show (!decide (b < PP)) = false by simp [hb])) ?_
  refine e_pickF rfl rfl rfl rfl ?_
  refine e_nil ?_
  refine e_cond rfl ?_ ?_
  · intro hc0
    cases hc0
  · intro hc0
    refine e_skip ?_
    refine e_seq ?_
    refine e_draw mixed (by kernel_rfl) ?_
    refine e_loadA (i := 0) und24 rfl siz24 rfl rfl (arr_size _ _ _) rfl ?_
    refine e_call rfl ent24 (of_fn _) rfl ?_
    refine e_loadA (i := 1) und24 rfl siz24 rfl rfl (arr_size _ _ _) rfl ?_
    refine e_call rfl ent24 (of_fn _) rfl ?_
    refine e_alloc 3 zer42 rfl fun r4 => ?_
    refine e_alloc 4 zer42 rfl fun r5 => ?_
    refine e_storeA (i := 3) siz42 rfl rfl (arr_size _ _ _) arr_one rfl (arr_sz _ _ _ _ _) ?_
    refine e_storeA (i := 4) siz42 rfl rfl (arr_size _ _ _) arr_one rfl (arr_sz _ _ _ _ _) ?_
    refine e_nil ?_
    refine e_seq ?_
    refine e_seq ?_
    refine e_plain ?_
    refine e_move rfl rfl ?_
    refine e_nil ?_
    refine e_block ?_
    refine e_seq ?_
    refine e_plain ?_
    refine e_eq rfl rfl rfl ?_
    refine e_as (congrArg Value.bool (decide_eq_true rfl)) ?_
    refine e_assign rfl rfl ?_
    refine e_nil ?_
    refine e_cond rfl ?_ ?_
    · intro hc1
      refine e_seq ?_
      refine e_plain ?_
      refine e_loadA (i := 3) und42 rfl siz42 rfl rfl (arr_size _ _ _) rfl ?_
      refine e_loadA (i := 4) und42 rfl siz42 rfl rfl (arr_size _ _ _) rfl ?_
      refine e_call rfl ent26 (sum_fn a b (by omega) (by omega)) rfl ?_
      refine e_call rfl ent25 (back_fn (d16 ((a + b) % PP)) (fun j _ => d16_lt _ j)) rfl ?_
      refine e_as (congrArg fe (vs_dg ((a + b) % PP) (Nat.lt_trans (Nat.mod_lt _ (by decide)) (by decide)))) ?_
      refine e_storeA (i := 2) siz24 rfl rfl (arr_size _ _ _) arr_one rfl (arr_sz _ _ _ _ _) ?_
      refine e_assign rfl rfl ?_
      refine e_nil ?_
      refine e_ret ?_
      exact ⟨_, _, rfl, .cell (i := 2) rfl rfl und24 rfl siz24 (arr_size _ _ _), .tmp rfl⟩
    · intro hc1
      cases hc1

set_option maxHeartbeats 400000 in
theorem reck2_ok (a b : Nat) (ha : a < PP) (hb : b < PP) : Fn Tryd.prog [⟨0, arr .u64 16 (d16 PP), 42⟩] 9 #[ii 2, fe a, fe b] (.tuple #[fe ((a + PP - b) % PP), ii 0]) := by
  have hPP := PP_eq
  have hm1 := Nat.mod_lt (PP - b) PP_pos
  refine fn2 (n := 41) Tryd.func9 rfl rfl (by simp) (argE [ii 2, fe a, fe b] 0) (argE_ok _) ?_
  refine e_seq ?_
  refine e_plain ?_
  refine e_box 0 rfl rfl fun r1 => ?_
  refine e_box 1 rfl rfl fun r2 => ?_
  refine e_alloc 2 zer24 rfl fun r3 => ?_
  refine e_assign rfl rfl ?_
  refine e_nil ?_
  refine e_seq ?_
  refine e_seq ?_
  refine e_plain ?_
  refine e_loadA (i := 0) und24 rfl siz24 rfl rfl (arr_size _ _ _) rfl ?_
  refine e_call rfl ent23 (in_fn _ (by omega)) rfl ?_
  refine e_not rfl rfl ?_
  refine e_as (congrArg Value.bool (show (!decide (a < PP)) = false by simp [ha])) ?_
  refine e_move rfl rfl ?_
  refine e_yes rfl rfl rfl ?_
  refine e_loadA (i := 1) und24 rfl siz24 rfl rfl (arr_size _ _ _) rfl ?_
  refine e_yes rfl rfl rfl ?_
  refine e_call rfl ent23 (in_fn _ (by omega)) rfl ?_
  refine e_yes rfl rfl rfl ?_
  refine e_not rfl rfl ?_
  refine e_as (congrArg Value.bool (show (!decide (b < PP)) = false by simp [hb])) ?_
  refine e_pickF rfl rfl rfl rfl ?_
  refine e_nil ?_
  refine e_cond rfl ?_ ?_
  · intro hc0
    cases hc0
  · intro hc0
    refine e_skip ?_
    refine e_seq ?_
    refine e_draw mixed (by kernel_rfl) ?_
    refine e_loadA (i := 0) und24 rfl siz24 rfl rfl (arr_size _ _ _) rfl ?_
    refine e_call rfl ent24 (of_fn _) rfl ?_
    refine e_loadA (i := 1) und24 rfl siz24 rfl rfl (arr_size _ _ _) rfl ?_
    refine e_call rfl ent24 (of_fn _) rfl ?_
    refine e_alloc 3 zer42 rfl fun r4 => ?_
    refine e_alloc 4 zer42 rfl fun r5 => ?_
    refine e_storeA (i := 3) siz42 rfl rfl (arr_size _ _ _) arr_one rfl (arr_sz _ _ _ _ _) ?_
    refine e_storeA (i := 4) siz42 rfl rfl (arr_size _ _ _) arr_one rfl (arr_sz _ _ _ _ _) ?_
    refine e_nil ?_
    refine e_seq ?_
    refine e_seq ?_
    refine e_plain ?_
    refine e_move rfl rfl ?_
    refine e_nil ?_
    refine e_block ?_
    refine e_seq ?_
    refine e_plain ?_
    refine e_eq rfl rfl rfl ?_
    refine e_as (congrArg Value.bool (decide_eq_false (by decide))) ?_
    refine e_assign rfl rfl ?_
    refine e_nil ?_
    refine e_cond rfl ?_ ?_
    · intro hc1
      cases hc1
    · intro hc1
      refine e_seq ?_
      refine e_plain ?_
      refine e_eq rfl rfl rfl ?_
      refine e_as (congrArg Value.bool (decide_eq_true rfl)) ?_
      refine e_assign rfl rfl ?_
      refine e_nil ?_
      refine e_cond rfl ?_ ?_
      · intro hc2
        refine e_seq ?_
        refine e_draw mixed (by kernel_rfl) ?_
        refine e_loadA (i := 3) und42 rfl siz42 rfl rfl (arr_size _ _ _) rfl ?_
        refine e_loadA (i := 4) und42 rfl siz42 rfl rfl (arr_size _ _ _) rfl ?_
        refine e_call rfl ent27 (opp_fn b (by omega)) rfl ?_
        refine e_call rfl ent26 (sum_fn a _ (by omega) (by omega)) rfl ?_
        refine e_call rfl ent25 (back_fn (d16 ((a + (PP - b) % PP) % PP)) (fun j _ => d16_lt _ j)) rfl ?_
        refine e_as (congrArg fe ((vs_dg ((a + (PP - b) % PP) % PP) (Nat.lt_trans (Nat.mod_lt _ (by decide)) (by decide))).trans (opp_eq a b hb))) ?_
        refine e_storeA (i := 2) siz24 rfl rfl (arr_size _ _ _) arr_one rfl (arr_sz _ _ _ _ _) ?_
        refine e_assign rfl rfl ?_
        refine e_nil ?_
        refine e_ret ?_
        exact ⟨_, _, rfl, .cell (i := 2) rfl rfl und24 rfl siz24 (arr_size _ _ _), .tmp rfl⟩
      · intro hc2
        cases hc2

set_option maxHeartbeats 400000 in
theorem reck_bada (op a b : Nat) (ha : ¬ a < PP) (ha2 : a < 2 ^ 256) : Fn Tryd.prog [⟨0, arr .u64 16 (d16 PP), 42⟩] 9 #[ii op, fe a, fe b] (.tuple #[.agg (arr .u64 4 (fun _ => 0)), ii 6]) := by
  have hPP := PP_eq
  refine fn2 (n := 41) Tryd.func9 rfl rfl (by simp) (argE [ii op, fe a, fe b] 0) (argE_ok _) ?_
  refine e_seq ?_
  refine e_plain ?_
  refine e_box 0 rfl rfl fun r1 => ?_
  refine e_box 1 rfl rfl fun r2 => ?_
  refine e_alloc 2 zer24 rfl fun r3 => ?_
  refine e_assign rfl rfl ?_
  refine e_nil ?_
  refine e_seq ?_
  refine e_seq ?_
  refine e_plain ?_
  refine e_loadA (i := 0) und24 rfl siz24 rfl rfl (arr_size _ _ _) rfl ?_
  refine e_call rfl ent23 (in_fn _ (by omega)) rfl ?_
  refine e_not rfl rfl ?_
  refine e_as (congrArg Value.bool (show (!decide (a < PP)) = true by simp [ha])) ?_
  refine e_move rfl rfl ?_
  refine e_no rfl rfl (by decide) rfl ?_
  refine e_no rfl rfl (by decide) rfl ?_
  refine e_no rfl rfl (by decide) rfl ?_
  refine e_pickT rfl rfl rfl rfl ?_
  refine e_nil ?_
  refine e_cond rfl ?_ ?_
  · intro hc0
    refine e_seq ?_
    refine e_plain ?_
    refine e_build0 zer24 und24 sis22 rfl ?_
    refine e_storeA (i := 2) siz24 rfl rfl (arr_size _ _ _) arr_one rfl (arr_sz _ _ _ _ _) ?_
    refine e_assign rfl rfl ?_
    refine e_nil ?_
    refine e_ret ?_
    exact ⟨_, _, rfl, .cell (i := 2) rfl rfl und24 rfl siz24 (arr_size _ _ _), .tmp rfl⟩
  · intro hc0
    cases hc0

set_option maxHeartbeats 400000 in
theorem reck_badb (op a b : Nat) (ha : a < PP) (hb : ¬ b < PP) (hb2 : b < 2 ^ 256) : Fn Tryd.prog [⟨0, arr .u64 16 (d16 PP), 42⟩] 9 #[ii op, fe a, fe b] (.tuple #[.agg (arr .u64 4 (fun _ => 0)), ii 6]) := by
  have hPP := PP_eq
  refine fn2 (n := 41) Tryd.func9 rfl rfl (by simp) (argE [ii op, fe a, fe b] 0) (argE_ok _) ?_
  refine e_seq ?_
  refine e_plain ?_
  refine e_box 0 rfl rfl fun r1 => ?_
  refine e_box 1 rfl rfl fun r2 => ?_
  refine e_alloc 2 zer24 rfl fun r3 => ?_
  refine e_assign rfl rfl ?_
  refine e_nil ?_
  refine e_seq ?_
  refine e_seq ?_
  refine e_plain ?_
  refine e_loadA (i := 0) und24 rfl siz24 rfl rfl (arr_size _ _ _) rfl ?_
  refine e_call rfl ent23 (in_fn _ (by omega)) rfl ?_
  refine e_not rfl rfl ?_
  refine e_as (congrArg Value.bool (show (!decide (a < PP)) = false by simp [ha])) ?_
  refine e_move rfl rfl ?_
  refine e_yes rfl rfl rfl ?_
  refine e_loadA (i := 1) und24 rfl siz24 rfl rfl (arr_size _ _ _) rfl ?_
  refine e_yes rfl rfl rfl ?_
  refine e_call rfl ent23 (in_fn _ (by omega)) rfl ?_
  refine e_yes rfl rfl rfl ?_
  refine e_not rfl rfl ?_
  refine e_as (congrArg Value.bool (show (!decide (b < PP)) = true by simp [hb])) ?_
  refine e_pickF rfl rfl rfl rfl ?_
  refine e_nil ?_
  refine e_cond rfl ?_ ?_
  · intro hc0
    refine e_seq ?_
    refine e_plain ?_
    refine e_build0 zer24 und24 sis22 rfl ?_
    refine e_storeA (i := 2) siz24 rfl rfl (arr_size _ _ _) arr_one rfl (arr_sz _ _ _ _ _) ?_
    refine e_assign rfl rfl ?_
    refine e_nil ?_
    refine e_ret ?_
    exact ⟨_, _, rfl, .cell (i := 2) rfl rfl und24 rfl siz24 (arr_size _ _ _), .tmp rfl⟩
  · intro hc0
    cases hc0

end Go.Proofs.YtkoigikldikmmaaDoor
