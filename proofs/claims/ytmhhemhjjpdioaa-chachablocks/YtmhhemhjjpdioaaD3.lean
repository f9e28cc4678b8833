/-
  Walks, written by a program of ours off the loaded functions.
-/
import Derived.Test.YtmhhemhjjpdioaaD2
import Derived.Test.YtmhhemhjjpdioaaCh4
namespace Go.Proofs.Ytmhhemhjjpdioaa
open Go Go.RowKit


theorem ent8 : enters Try.prog 8 = true := by kernel_rfl
theorem ent22 : enters Try.prog 22 = true := by kernel_rfl

variable {G : Mem}

set_option maxHeartbeats 400000 in
theorem blocks_fn (n : Nat) (hn : n < 9223372036854775808) : Fn Try.prog G 22 #[ii n] (u ((n + 63) / 64)) := by
  refine fn1 (n := 7) Try.func22 rfl rfl (by simp) (argE [ii n] 0) (argE_ok _) ?_
  refine e_seq ?_
  refine e_plain ?_
  refine e_assign rfl rfl ?_
  refine e_nil ?_
  refine e_seq ?_
  refine e_plain ?_
  refine e_move rfl rfl ?_
  refine e_conv_u und3 und48 rfl rfl ?_
  refine e_as (congrArg u (Nat.mod_eq_of_lt (show n < 18446744073709551616 by omega))) ?_
  refine e_add_u (q := 63) rfl rfl rfl  ?_
  refine e_as (congrArg u (Nat.mod_eq_of_lt (show n + 63 < 18446744073709551616 by omega))) ?_
  refine e_quo_u (q := 64) rfl rfl rfl (by omega) (by omega) ?_
  refine e_assign rfl rfl ?_
  refine e_nil ?_
  refine e_ret ?_
  exact ⟨_, rfl, .tmp rfl⟩

set_option maxHeartbeats 400000 in
theorem stream_big (k : Nat → Nat) (c : Nat) (nn : Nat → Nat) (v : Value) (l : List Nat) (hv : Shows G 1 v l.length (l.map by8)) (hl : 1600 < l.length) : Fn Try.prog G 10 #[.agg (arr .u8 32 k), uw c, .agg (arr .u8 12 nn), v] (.tuple #[nilS, ii 1]) := by
  refine fn2 (n := 56) Try.func10 rfl rfl (by simp) (argE [.agg (arr .u8 32 k), uw c, .agg (arr .u8 12 nn), v] 0) (argE_ok _) ?_
  refine e_seq ?_
  refine e_plain ?_
  refine e_box 0 rfl rfl fun r1 => ?_
  refine e_box 1 rfl rfl fun r2 => ?_
  refine e_assign rfl rfl ?_
  refine e_assign rfl rfl ?_
  refine e_nil ?_
  refine e_seq ?_
  refine e_seq ?_
  refine e_plain ?_
  refine e_move rfl rfl ?_
  refine e_lenV hv und28 rfl rfl rfl ?_
  refine e_gt rfl rfl rfl ?_
  refine e_as (congrArg Value.bool (decide_eq_true (by omega))) ?_
  refine e_nil ?_
  refine e_cond rfl ?_ ?_
  · intro hc0
    refine e_seq ?_
    refine e_plain ?_
    refine e_assign rfl rfl ?_
    refine e_assign rfl rfl ?_
    refine e_nil ?_
    refine e_ret ?_
    exact ⟨_, _, rfl, .tmp rfl, .tmp rfl⟩
  · intro hc0
    cases hc0

set_option maxHeartbeats 400000 in
theorem stream_over (k : Nat → Nat) (c : Nat) (nn : Nat → Nat) (v : Value) (l : List Nat) (hv : Shows G 1 v l.length (l.map by8)) (hc : c < 4294967296) (hl : l.length ≤ 1600) (ho : 64 * (4294967296 - c) < l.length) : Fn Try.prog G 10 #[.agg (arr .u8 32 k), uw c, .agg (arr .u8 12 nn), v] (.tuple #[nilS, ii 11]) := by
  refine fn2 (n := 56) Try.func10 rfl rfl (by simp) (argE [.agg (arr .u8 32 k), uw c, .agg (arr .u8 12 nn), v] 0) (argE_ok _) ?_
  refine e_seq ?_
  refine e_plain ?_
  refine e_box 0 rfl rfl fun r1 => ?_
  refine e_box 1 rfl rfl fun r2 => ?_
  refine e_assign rfl rfl ?_
  refine e_assign rfl rfl ?_
  refine e_nil ?_
  refine e_seq ?_
  refine e_seq ?_
  refine e_plain ?_
  refine e_move rfl rfl ?_
  refine e_lenV hv und28 rfl rfl rfl ?_
  refine e_gt rfl rfl rfl ?_
  refine e_as (congrArg Value.bool (decide_eq_false (by omega))) ?_
  refine e_nil ?_
  refine e_cond rfl ?_ ?_
  · intro hc0
    cases hc0
  · intro hc0
    refine e_skip ?_
    refine e_seq ?_
    refine e_seq ?_
    refine e_plain ?_
    refine e_move rfl rfl ?_
    refine e_conv_u und23 und48 rfl rfl ?_
    refine e_as (congrArg u (Nat.mod_eq_of_lt (show c < 18446744073709551616 by omega))) ?_
    refine e_move rfl rfl ?_
    refine e_lenV hv und28 rfl rfl rfl ?_
    refine e_call rfl ent22 (blocks_fn _ (by omega)) rfl rfl ?_
    refine e_add_u rfl rfl rfl  ?_
    refine e_as (congrArg u (Nat.mod_eq_of_lt (show c + (l.length + 63) / 64 < 18446744073709551616 by omega))) ?_
    refine e_gt rfl rfl rfl ?_
    refine e_as (congrArg Value.bool (decide_eq_true (by omega))) ?_
    refine e_nil ?_
    refine e_cond rfl ?_ ?_
    · intro hc1
      refine e_seq ?_
      refine e_plain ?_
      refine e_assign rfl rfl ?_
      refine e_assign rfl rfl ?_
      refine e_nil ?_
      refine e_ret ?_
      exact ⟨_, _, rfl, .tmp rfl, .tmp rfl⟩
    · intro hc1
      cases hc1

set_option maxHeartbeats 2000000 in
theorem stream_ok (k : Nat → Nat) (c : Nat) (nn : Nat → Nat) (v : Value) (l : List Nat) (hv : Shows G 1 v l.length (l.map by8)) (hk : ∀ j, j < 32 → k j < 256) (hn : ∀ j, j < 12 → nn j < 256) (hc : c < 4294967296) (hl : l.length ≤ 1600) (ho : ¬ 64 * (4294967296 - c) < l.length) : Fx Try.prog G [] 10 #[.agg (arr .u8 32 k), uw c, .agg (arr .u8 12 nn), v] (fun v l1 nw => l1 = [] ∧ ∃ v', v = .tuple #[v', ii 0] ∧ OwnS 5 1 v' (l.length - 0) ((strl k c nn l 0).map by8) nw) := by
  refine fxN2 (n := 56) Try.func10 rfl rfl (by simp) (argE [.agg (arr .u8 32 k), uw c, .agg (arr .u8 12 nn), v] 0) (argE_ok _) ?_
  refine e_seq ?_
  refine e_plain ?_
  refine e_box 0 rfl rfl fun r1 => ?_
  refine e_box 1 rfl rfl fun r2 => ?_
  refine e_assign rfl rfl ?_
  refine e_assign rfl rfl ?_
  refine e_nil ?_
  refine e_seq ?_
  refine e_seq ?_
  refine e_plain ?_
  refine e_move rfl rfl ?_
  refine e_lenV hv und28 rfl rfl rfl ?_
  refine e_gt rfl rfl rfl ?_
  refine e_as (congrArg Value.bool (decide_eq_false (by omega))) ?_
  refine e_nil ?_
  refine e_cond rfl ?_ ?_
  · intro hc0
    cases hc0
  · intro hc0
    refine e_skip ?_
    refine e_seq ?_
    refine e_seq ?_
    refine e_plain ?_
    refine e_move rfl rfl ?_
    refine e_conv_u und23 und48 rfl rfl ?_
    refine e_as (congrArg u (Nat.mod_eq_of_lt (show c < 18446744073709551616 by omega))) ?_
    refine e_move rfl rfl ?_
    refine e_lenV hv und28 rfl rfl rfl ?_
    refine e_call rfl ent22 (blocks_fn _ (by omega)) rfl rfl ?_
    refine e_add_u rfl rfl rfl  ?_
    refine e_as (congrArg u (Nat.mod_eq_of_lt (show c + (l.length + 63) / 64 < 18446744073709551616 by omega))) ?_
    refine e_gt rfl rfl rfl ?_
    refine e_as (congrArg Value.bool (decide_eq_false (by omega))) ?_
    refine e_nil ?_
    refine e_cond rfl ?_ ?_
    · intro hc1
      cases hc1
    · intro hc1
      refine e_skip ?_
      refine e_seq ?_
      refine e_plain ?_
      refine e_move rfl rfl ?_
      refine e_lenV hv und28 rfl rfl rfl ?_
      refine e_make 2 und28 siz5 byt5 zer5 rfl rfl rfl (by omega) (by omega) rfl fun r3 => ?_
      refine e_assign rfl rfl ?_
      refine e_nil ?_
      refine e_seq ?_
      refine e_plain ?_
      refine e_alloc 3 zer25 rfl fun r4 => ?_
      refine e_nil ?_
      refine e_seq ?_
      refine e_seq ?_
      refine e_plain ?_
      refine e_move rfl rfl ?_
      refine e_lenV hv und28 rfl rfl rfl ?_
      refine e_move rfl rfl ?_
      refine e_nil ?_
      refine e_block ?_
      refine e_loop (fun kk E m => ∃ (i : Nat) (s : Nat → Nat) (p : Nat → Nat), kk = l.length - i ∧ E = [(1, uw c), (4, ptr r1), (6, ptr r2), (10, .slice (some ⟨r3, 0, none⟩) l.length l.length), (11, ptr r4), (27, v), (28, ii l.length), (29, ii i)] ∧ m = [(0, some ⟨r1, arr .u8 32 k, 41⟩), (1, some ⟨r2, arr .u8 12 nn, 24⟩), (2, some ⟨r3, arr .u8 l.length s, 5⟩), (3, some ⟨r4, arr .u8 64 p, 25⟩)] ∧ (i ≤ l.length) ∧ (∀ t, t < i → s t = strv k c nn l t) ∧ (i % 64 ≠ 0 → ∀ t, t < 64 → p t = blkf k ((c + i / 64 % 4294967296) % 4294967296) nn t)) [(1, uw c), (4, ptr r1), (6, ptr r2), (10, .slice (some ⟨r3, 0, none⟩) l.length l.length), (11, ptr r4), (27, v), (28, ii l.length), (29, ii 0)] [(0, some ⟨r1, arr .u8 32 k, 41⟩), (1, some ⟨r2, arr .u8 12 nn, 24⟩), (2, some ⟨r3, arr .u8 l.length (fun _ => 0), 5⟩), (3, some ⟨r4, arr .u8 64 (fun _ => 0), 25⟩)] (l.length - 0) ⟨rfl, rfl, rfl, rfl, rfl, rfl, rfl, rfl, trivial⟩ ⟨rfl, rfl, rfl, rfl, trivial⟩ ⟨0, fun _ => 0, fun _ => 0, rfl, rfl, rfl, by omega, fun t ht => absurd ht (Nat.not_lt_zero t), fun h => absurd rfl h⟩ ?_
      rintro kk E m ⟨i, s, p, rfl, rfl, rfl, hf0_0, hf0_1, hf0_2⟩
      refine e_seq ?_
      refine e_plain ?_
      refine e_lt rfl rfl rfl ?_
      refine e_nil ?_
      refine e_seq ?_
      refine e_cond rfl ?_ ?_
      · intro hc2
        have hc2 := of_decide_eq_true hc2
        refine e_skip ?_
        refine e_seq ?_
        refine e_block ?_
        refine e_seq ?_
        refine e_plain ?_
        refine e_move rfl rfl ?_
        refine e_atV hv und28 siz5 rfl rfl (by omega) rfl ?_
        refine e_as (congrArg (slAddr _) (Nat.mul_one _)) ?_
        refine e_loadV hv seenG und5 rfl rfl (nth_by8 (show i < l.length by omega)) rfl ?_
        refine e_assign rfl rfl ?_
        refine e_assign rfl rfl ?_
        refine e_nil ?_
        refine e_seq ?_
        refine e_seq ?_
        refine e_plain ?_
        refine e_move rfl rfl ?_
        refine e_rem_i (q := 64) rfl rfl rfl (by omega) ?_
        refine e_eq rfl rfl rfl ?_
        refine e_nil ?_
        refine e_cond rfl ?_ ?_
        · intro hc3
          have hc3 := of_decide_eq_true hc3
          refine e_plain ?_
          refine e_loadA (i := 0) und41 rfl siz41 rfl rfl (arr_size _ _ _) rfl ⟨[], trivial⟩ ?_
          refine e_move rfl rfl ?_
          refine e_move rfl rfl ?_
          refine e_quo_i (q := 64) rfl rfl rfl (by omega) (by omega) ?_
          refine e_conv_w und3 und23 rfl rfl ?_
          refine e_add_w rfl rfl rfl  ?_
          refine e_loadA (i := 1) und24 rfl siz24 rfl rfl (arr_size _ _ _) rfl ⟨[], trivial⟩ ?_
          refine e_call rfl ent8 (block_fn k _ nn hk hn (Nat.mod_lt _ (by decide))) rfl rfl ?_
          refine e_storeA (i := 3) siz25 rfl rfl (arr_size _ _ _) arr_one rfl (arr_sz _ _ _ _ _) (.inl rfl) ?_
          refine e_nil ?_
          refine e_plain ?_
          refine e_move rfl rfl ?_
          refine e_move rfl rfl ?_
          refine e_move rfl rfl ?_
          refine e_move rfl rfl ?_
          refine e_rem_i (q := 64) rfl rfl rfl (by omega) ?_
          refine e_index0 und25 siz5 rfl rfl (by omega) rfl ?_
          refine e_load1 (i := 3) und5 rfl rfl rfl (arr_get (by omega)) rfl ⟨[], trivial⟩ ?_
          refine e_xor_b rfl rfl rfl  ?_
          refine e_atSl (i) und28 siz5 rfl rfl (by omega) (by omega) rfl ?_
          refine e_storeN (i := 2) siz5 rfl rfl rfl (by omega) (.inl rfl) ?_
          refine e_nil ?_
          refine e_plain ?_
          refine e_add_i (q := 1) rfl rfl rfl (by omega) ?_
          refine e_move rfl rfl ?_
          refine e_nil ?_
          refine ⟨_, [(1, uw c), (4, ptr r1), (6, ptr r2), (10, .slice (some ⟨r3, 0, none⟩) l.length l.length), (11, ptr r4), (27, v), (28, ii l.length), (29, ii (i + 1))], [(0, some ⟨r1, arr .u8 32 k, 41⟩), (1, some ⟨r2, arr .u8 12 nn, 24⟩), (2, some ⟨r3, arr .u8 l.length (upd s i _), 5⟩), (3, some ⟨r4, arr .u8 64 _, 25⟩)], ?_, ⟨rfl, rfl, rfl, rfl, rfl, rfl, rfl, rfl, trivial⟩, ⟨rfl, rfl, rfl, rfl, trivial⟩, i + 1, upd s i _, _, rfl, rfl, rfl, by omega, upd_lt hf0_1 (strv_in k c nn _ l (by omega) (by first | rfl | exact hf0_2 (by omega) _ (by omega))), fun h t ht => by rw [show (i + 1) / 64 = i / 64 by omega] <;> exact hf0_2 (by omega) t ht⟩
          omega
        · intro hc3
          have hc3 := of_decide_eq_false hc3
          refine e_skip ?_
          refine e_plain ?_
          refine e_move rfl rfl ?_
          refine e_move rfl rfl ?_
          refine e_move rfl rfl ?_
          refine e_move rfl rfl ?_
          refine e_rem_i (q := 64) rfl rfl rfl (by omega) ?_
          refine e_index0 und25 siz5 rfl rfl (by omega) rfl ?_
          refine e_load1 (i := 3) und5 rfl rfl rfl (arr_get (by omega)) rfl ⟨[], trivial⟩ ?_
          refine e_xor_b rfl rfl rfl  ?_
          refine e_atSl (i) und28 siz5 rfl rfl (by omega) (by omega) rfl ?_
          refine e_storeN (i := 2) siz5 rfl rfl rfl (by omega) (.inl rfl) ?_
          refine e_nil ?_
          refine e_plain ?_
          refine e_add_i (q := 1) rfl rfl rfl (by omega) ?_
          refine e_move rfl rfl ?_
          refine e_nil ?_
          refine ⟨_, [(1, uw c), (4, ptr r1), (6, ptr r2), (10, .slice (some ⟨r3, 0, none⟩) l.length l.length), (11, ptr r4), (27, v), (28, ii l.length), (29, ii (i + 1))], [(0, some ⟨r1, arr .u8 32 k, 41⟩), (1, some ⟨r2, arr .u8 12 nn, 24⟩), (2, some ⟨r3, arr .u8 l.length (upd s i _), 5⟩), (3, some ⟨r4, arr .u8 64 _, 25⟩)], ?_, ⟨rfl, rfl, rfl, rfl, rfl, rfl, rfl, rfl, trivial⟩, ⟨rfl, rfl, rfl, rfl, trivial⟩, i + 1, upd s i _, _, rfl, rfl, rfl, by omega, upd_lt hf0_1 (strv_in k c nn _ l (by omega) (by first | rfl | exact hf0_2 (by omega) _ (by omega))), fun h t ht => by rw [show (i + 1) / 64 = i / 64 by omega] <;> exact hf0_2 (by omega) t ht⟩
          omega
      · intro hc2
        have hc2 := of_decide_eq_false hc2
        have hz2 : i = l.length := by omega
        subst hz2
        refine e_exit ?_
        refine e_seq ?_
        refine e_plain ?_
        refine e_move rfl rfl ?_
        refine e_assign rfl rfl ?_
        refine e_assign rfl rfl ?_
        refine e_nil ?_
        refine e_ret ?_
        exact ⟨_, _, _, _, 2, rfl, .tmp rfl, .tmp rfl, (own_fix (own_made (strl_len k c nn l 0) (by simp only [maxLen]; omega) (fun j hj => (hf0_1 j (by omega)).trans (strl_at k c nn l (by omega)).symm)) rfl rfl), rfl⟩

end Go.Proofs.Ytmhhemhjjpdioaa
