/-
  Walks, written by a program of ours off the loaded functions.
-/
import Derived.Test.YthhcgeoldjmpaaaDoorR1
namespace Go.Proofs.YthhcgeoldjmpaaaDoor
open Go Go.RowKit


theorem ent16 : enters Tryd.prog 16 = true := by kernel_rfl
theorem ent33 : enters Tryd.prog 33 = true := by kernel_rfl

variable {G : Mem}

set_option maxHeartbeats 400000 in
theorem in_fn (a : Nat) (ha : a < 2 ^ 256) : Fn Tryd.prog [⟨0, arr .u64 16 (d16 PP), 41⟩] 32 #[fe a] (.bool (decide (a < PP))) := by
  refine fn1 (n := 7) Tryd.func32 rfl rfl (by simp) (argE [fe a] 0) (argE_ok _) ?_
  refine e_seq ?_
  refine e_plain ?_
  refine e_box 0 rfl rfl fun r1 => ?_
  refine e_assign rfl rfl ?_
  refine e_nil ?_
  refine e_seq ?_
  refine e_plain ?_
  refine e_loadA (i := 0) und31 rfl siz31 rfl rfl (arr_size _ _ _) rfl ⟨[], trivial⟩ ?_
  refine e_call rfl ent16 (of_fn _) rfl rfl ?_
  refine e_call rfl ent46 (notBelow_fn (d16 a) (fun j _ => d16_lt a j)) rfl rfl ?_
  refine e_not rfl rfl ?_
  refine e_as (congrArg Value.bool (in_bool a ha)) ?_
  refine e_assign rfl rfl ?_
  refine e_nil ?_
  refine e_ret ?_
  exact ⟨_, rfl, .tmp rfl⟩

set_option maxHeartbeats 400000 in
theorem sum_fn (x y : Nat) (hx : x < 2 ^ 256) (hy : y < 2 ^ 256) : Fn Tryd.prog [⟨0, arr .u64 16 (d16 PP), 41⟩] 44 #[dg x, dg y] (dg ((x + y) % PP)) := by
  refine fn1 (n := 20) Tryd.func44 rfl rfl (by simp) (argE [dg x, dg y] 0) (argE_ok _) ?_
  refine e_seq ?_
  refine e_plain ?_
  refine e_box 0 rfl rfl fun r1 => ?_
  refine e_box 1 rfl rfl fun r2 => ?_
  refine e_alloc 2 zer41 rfl fun r3 => ?_
  refine e_nil ?_
  refine e_seq ?_
  refine e_seq ?_
  refine e_plain ?_
  refine e_move rfl rfl ?_
  refine e_nil ?_
  refine e_block ?_
  refine e_loop (fun kk E m => ∃ (k : Nat) (s : Nat → Nat), kk = 16 - k ∧ E = [(2, ptr r1), (3, ptr r2), (4, ptr r3), (6, ii k)] ∧ m = [(0, ⟨r1, arr .u64 16 s, 41⟩), (1, ⟨r2, arr .u64 16 (d16 y), 41⟩), (2, ⟨r3, arr .u64 16 (fun _ => 0), 41⟩)] ∧ (k ≤ 16) ∧ (∀ t, t < k → s t = d16 x t + d16 y t) ∧ (∀ t, k ≤ t → s t = d16 x t)) [(2, ptr r1), (3, ptr r2), (4, ptr r3), (6, ii 0)] [(0, ⟨r1, arr .u64 16 (d16 x), 41⟩), (1, ⟨r2, arr .u64 16 (d16 y), 41⟩), (2, ⟨r3, arr .u64 16 (fun _ => 0), 41⟩)] (16 - 0) ⟨rfl, rfl, rfl, rfl, trivial⟩ ⟨rfl, rfl, rfl, trivial⟩ ⟨0, d16 x, rfl, rfl, rfl, by omega, fun t ht => absurd ht (Nat.not_lt_zero t), fun t _ => rfl⟩ ?_
  rintro kk E m ⟨k, s, rfl, rfl, rfl, hf0_0, hf0_1, hf0_2⟩
  have hsk : s k = d16 x k := hf0_2 k (Nat.le_refl k)
  have h1 := d16_lt x k
  have h2 := d16_lt y k
  refine e_seq ?_
  refine e_plain ?_
  refine e_lt rfl rfl rfl ?_
  refine e_nil ?_
  refine e_seq ?_
  refine e_cond rfl ?_ ?_
  · intro hc0
    have hc0 := of_decide_eq_true hc0
    refine e_skip ?_
    refine e_seq ?_
    refine e_block ?_
    refine e_seq ?_
    refine e_plain ?_
    refine e_move rfl rfl ?_
    refine e_assign rfl rfl ?_
    refine e_nil ?_
    refine e_draw mixed (by kernel_rfl) ?_
    refine e_move rfl rfl ?_
    refine e_index0 und41 siz29 rfl rfl (by omega) rfl ?_
    refine e_load1 (i := 0) und29 rfl rfl rfl (arr_get (by omega)) rfl ⟨[], trivial⟩ ?_
    refine e_move rfl rfl ?_
    refine e_index0 und41 siz29 rfl rfl (by omega) rfl ?_
    refine e_load1 (i := 1) und29 rfl rfl rfl (arr_get (by omega)) rfl ⟨[], trivial⟩ ?_
    refine e_add_u rfl rfl rfl  ?_
    refine e_as (congrArg u (add_form (s k) (d16 y k) (by omega) (by omega))) ?_
    refine e_index0 und41 siz29 rfl rfl (by omega) rfl ?_
    refine e_storeN (i := 0) siz29 rfl rfl rfl (by omega) (.inl rfl) ?_
    refine e_nil ?_
    refine e_plain ?_
    refine e_add_i (q := 1) rfl rfl rfl (by omega) ?_
    refine e_move rfl rfl ?_
    refine e_nil ?_
    refine ⟨_, [(2, ptr r1), (3, ptr r2), (4, ptr r3), (6, ii (k + 1))], [(0, ⟨r1, arr .u64 16 (upd s k (s k + d16 y k)), 41⟩), (1, ⟨r2, arr .u64 16 (d16 y), 41⟩), (2, ⟨r3, arr .u64 16 (fun _ => 0), 41⟩)], ?_, ⟨rfl, rfl, rfl, rfl, trivial⟩, ⟨rfl, rfl, rfl, trivial⟩, k + 1, upd s k (s k + d16 y k), rfl, rfl, rfl, by omega, upd_lt (g := fun t => d16 x t + d16 y t) hf0_1 (by rw [hf0_2 k (Nat.le_refl k)]), upd_ge hf0_2⟩
    omega
  · intro hc0
    have hc0 := of_decide_eq_false hc0
    have hk : k = 16 := by omega
    subst hk
    refine e_exit ?_
    refine e_seq ?_
    refine e_plain ?_
    refine e_loadA (i := 0) und41 rfl siz41 rfl rfl (arr_size _ _ _) rfl ⟨[], trivial⟩ ?_
    refine e_call rfl ent33 (carried_fn s (fun j hj => by rw [hf0_1 j hj]; have := d16_lt x j; have := d16_lt y j; omega)) rfl rfl ?_
    refine e_storeA (i := 2) siz41 rfl rfl (arr_size _ _ _) arr_one rfl (arr_sz _ _ _ _ _) (.inl rfl) ?_
    refine e_nil ?_
    refine e_ret ?_
    rw [show (x + y) % PP = vs s 16 % PP by rw [vs_add 16 hf0_1, vs_dg x hx, vs_dg y hy]]
    exact ⟨_, rfl, .cell (i := 2) rfl rfl und41 rfl siz41 (arr_size _ _ _)⟩

set_option maxHeartbeats 400000 in
theorem opp_fn (x : Nat) (hx : x ≤ PP) : Fn Tryd.prog [⟨0, arr .u64 16 (d16 PP), 41⟩] 45 #[dg x] (dg ((PP - x) % PP)) := by
  have hx2 : x < 2 ^ 256 := Nat.lt_of_le_of_lt hx (by decide)
  refine fn1 (n := 29) Tryd.func45 rfl rfl (by simp) (argE [dg x] 0) (argE_ok _) ?_
  refine e_seq ?_
  refine e_plain ?_
  refine e_box 0 rfl rfl fun r1 => ?_
  refine e_alloc 1 zer41 rfl fun r2 => ?_
  refine e_nil ?_
  refine e_seq ?_
  refine e_plain ?_
  refine e_assign rfl rfl ?_
  refine e_nil ?_
  refine e_seq ?_
  refine e_seq ?_
  refine e_plain ?_
  refine e_move rfl rfl ?_
  refine e_nil ?_
  refine e_block ?_
  refine e_loop (fun kk E m => ∃ (j : Nat) (s : Nat → Nat) (c : Nat), kk = 16 - j ∧ E = [(1, ptr r1), (2, ptr r2), (3, u c), (6, ii j)] ∧ m = [(0, ⟨r1, arr .u64 16 s, 41⟩), (1, ⟨r2, arr .u64 16 (fun _ => 0), 41⟩)] ∧ (j ≤ 16) ∧ (∀ t, t < j → s t < 65536) ∧ (∀ t, j ≤ t → s t = d16 x t) ∧ (c ≤ 1) ∧ (vs s j + vs (d16 x) j = vs (d16 PP) j + c * 2 ^ (16 * j))) [(1, ptr r1), (2, ptr r2), (3, u 0), (6, ii 0)] [(0, ⟨r1, arr .u64 16 (d16 x), 41⟩), (1, ⟨r2, arr .u64 16 (fun _ => 0), 41⟩)] (16 - 0) ⟨rfl, rfl, rfl, rfl, trivial⟩ ⟨rfl, rfl, trivial⟩ ⟨0, d16 x, 0, rfl, rfl, rfl, by omega, fun t ht => absurd ht (Nat.not_lt_zero t), fun t _ => rfl, by decide, by simp [vs]⟩ ?_
  rintro kk E m ⟨j, s, c, rfl, rfl, rfl, hf0_0, hf0_1, hf0_2, hf0_3, hf0_4⟩
  have hpd := d16_lt PP j
  have hxd := d16_lt x j
  have hs4 : s j = d16 x j := hf0_2 j (Nat.le_refl j)
  refine e_seq ?_
  refine e_plain ?_
  refine e_lt rfl rfl rfl ?_
  refine e_nil ?_
  refine e_seq ?_
  refine e_cond rfl ?_ ?_
  · intro hc0
    have hc0 := of_decide_eq_true hc0
    refine e_skip ?_
    refine e_seq ?_
    refine e_block ?_
    refine e_seq ?_
    refine e_plain ?_
    refine e_move rfl rfl ?_
    refine e_assign rfl rfl ?_
    refine e_nil ?_
    refine e_seq ?_
    refine e_draw mixed (by kernel_rfl) ?_
    refine e_move rfl rfl ?_
    refine e_index0 und41 siz29 rfl rfl (by omega) rfl ?_
    refine e_load1g (i := 0) und29 rfl rfl rfl (arr_get (by omega)) rfl ?_
    refine e_add_u (q := 65536) rfl rfl rfl  ?_
    refine e_move rfl rfl ?_
    refine e_index0 und41 siz29 rfl rfl (by omega) rfl ?_
    refine e_load1 (i := 0) und29 rfl rfl rfl (arr_get (by omega)) rfl ⟨[], trivial⟩ ?_
    refine e_as (congrArg u hs4) ?_
    refine e_sub_u rfl rfl rfl (by omega) ?_
    refine e_move rfl rfl ?_
    refine e_sub_u rfl rfl rfl (by omega) ?_
    refine e_as (congrArg u (bor_form (d16 PP j) (d16 x j) c (by omega) (by omega) (by omega))) ?_
    refine e_assign rfl rfl ?_
    refine e_nil ?_
    refine e_plain ?_
    refine e_move rfl rfl ?_
    refine e_move rfl rfl ?_
    refine e_rem_u (q := 65536) rfl rfl rfl (by omega) ?_
    refine e_move rfl rfl ?_
    refine e_quo_u (q := 65536) rfl rfl rfl (by omega) (by omega) ?_
    refine e_sub_u (p := 1) rfl rfl rfl (by omega) ?_
    refine e_as (congrArg u (bor_form2 _ (by omega))) ?_
    refine e_index0 und41 siz29 rfl rfl (by omega) rfl ?_
    refine e_storeN (i := 0) siz29 rfl rfl rfl (by omega) (.inl rfl) ?_
    refine e_assign rfl rfl ?_
    refine e_nil ?_
    refine e_plain ?_
    refine e_add_i (q := 1) rfl rfl rfl (by omega) ?_
    refine e_move rfl rfl ?_
    refine e_nil ?_
    refine ⟨_, [(1, ptr r1), (2, ptr r2), (3, u (1 - (d16 PP j + 65536 - d16 x j - c) / 65536)), (6, ii (j + 1))], [(0, ⟨r1, arr .u64 16 (upd s j ((d16 PP j + 65536 - d16 x j - c) % 65536)), 41⟩), (1, ⟨r2, arr .u64 16 (fun _ => 0), 41⟩)], ?_, ⟨rfl, rfl, rfl, rfl, trivial⟩, ⟨rfl, rfl, trivial⟩, j + 1, upd s j ((d16 PP j + 65536 - d16 x j - c) % 65536), 1 - (d16 PP j + 65536 - d16 x j - c) / 65536, rfl, rfl, rfl, by omega, digit_lt hf0_1 (Nat.mod_lt _ (by decide)), keep_ge hf0_2, by omega, borrow_next hf0_3 (d16_lt PP j) (d16_lt x j) hf0_4⟩
    omega
  · intro hc0
    have hc0 := of_decide_eq_false hc0
    have hj : j = 16 := by omega
    subst hj
    have hof := opp_fin (s := d16 x) hf0_1 (by rw [vs_dg x hx2]; exact hx) hf0_4 hf0_3
    rw [vs_dg x hx2] at hof
    refine e_exit ?_
    refine e_seq ?_
    refine e_plain ?_
    refine e_loadA (i := 0) und41 rfl siz41 rfl rfl (arr_size _ _ _) rfl ⟨[], trivial⟩ ?_
    refine e_call rfl ent33 (carried_fn s (fun t ht => Nat.lt_trans (hf0_1 t ht) (by decide))) rfl rfl ?_
    refine e_storeA (i := 1) siz41 rfl rfl (arr_size _ _ _) arr_one rfl (arr_sz _ _ _ _ _) (.inl rfl) ?_
    refine e_nil ?_
    refine e_ret ?_
    rw [← hof]
    exact ⟨_, rfl, .cell (i := 1) rfl rfl und41 rfl siz41 (arr_size _ _ _)⟩

end Go.Proofs.YthhcgeoldjmpaaaDoor
