/-
  Walks, written by a program of ours off the loaded functions.
-/
import Derived.Test.YtmhhemhjjpdioaaC3
namespace Go.Proofs.Ytmhhemhjjpdioaa
open Go Go.RowKit

theorem rest_fn {G : Mem} (k : Nat → Nat) (c : Nat) (nn : Nat → Nat) (v : Value) (l : List Nat) (hv : Shows G 1 v l.length (l.map by8)) (hk : ∀ j, j < 32 → k j < 256) (hn : ∀ j, j < 12 → nn j < 256) (hlen : l.length ≤ 4294967296) :
    ∀ m at_, at_ % 64 = 0 → l.length ≤ at_ + 64 * m → Fx Try.prog G [] 23 #[.agg (arr .u8 32 k), uw c, .agg (arr .u8 12 nn), v, ii at_] (fun v l1 nw => l1 = [] ∧ ∃ v', v = v' ∧ OwnS 5 1 v' (l.length - at_) ((strl k c nn l at_).map by8) nw)
  | 0, at_, _, h => rest_end k c nn v l at_ hv (by omega)
  | m + 1, at_, h64, h => by
    by_cases hat : l.length ≤ at_
    · exact rest_end k c nn v l at_ hv hat
    · exact rest_step k c nn v l at_ hv hk hn (by omega) h64 hlen (rest_fn k c nn v l hv hk hn hlen m (at_ + 64) (by omega) (by omega))


variable {G : Mem}

set_option maxHeartbeats 400000 in
theorem streamed_big (k : Nat → Nat) (c : Nat) (nn : Nat → Nat) (v : Value) (l : List Nat) (hv : Shows G 1 v l.length (l.map by8)) (hb : 1600 < l.length) : Fn Try.prog G 11 #[.agg (arr .u8 32 k), uw c, .agg (arr .u8 12 nn), v] (.tuple #[nilS, ii 1]) := by
  refine fn2 (n := 25) Try.func11 rfl rfl (by simp) (argE [.agg (arr .u8 32 k), uw c, .agg (arr .u8 12 nn), v] 0) (argE_ok _) ?_
  refine e_seq ?_
  refine e_plain ?_
  refine e_box 0 rfl rfl fun r1 => ?_
  refine e_box 1 rfl rfl fun r2 => ?_
  refine e_assign rfl rfl ?_
  refine e_assign rfl rfl ?_
  refine e_nil ?_
  refine e_seq ?_
  refine e_seq ?_
  refine e_plain ?_
  refine e_move rfl rfl ?_
  refine e_lenV hv und28 rfl rfl rfl ?_
  refine e_gt rfl rfl rfl ?_
  refine e_as (congrArg Value.bool (decide_eq_true (by omega))) ?_
  refine e_nil ?_
  refine e_cond rfl ?_ ?_
  · intro hc0
    refine e_seq ?_
    refine e_plain ?_
    refine e_assign rfl rfl ?_
    refine e_assign rfl rfl ?_
    refine e_nil ?_
    refine e_ret ?_
    exact ⟨_, _, rfl, .tmp rfl, .tmp rfl⟩
  · intro hc0
    cases hc0

set_option maxHeartbeats 400000 in
theorem streamed_over (k : Nat → Nat) (c : Nat) (nn : Nat → Nat) (v : Value) (l : List Nat) (hv : Shows G 1 v l.length (l.map by8)) (hc : c < 4294967296) (hb : l.length ≤ 1600) (ho : 64 * (4294967296 - c) < l.length) : Fn Try.prog G 11 #[.agg (arr .u8 32 k), uw c, .agg (arr .u8 12 nn), v] (.tuple #[nilS, ii 11]) := by
  refine fn2 (n := 25) Try.func11 rfl rfl (by simp) (argE [.agg (arr .u8 32 k), uw c, .agg (arr .u8 12 nn), v] 0) (argE_ok _) ?_
  refine e_seq ?_
  refine e_plain ?_
  refine e_box 0 rfl rfl fun r1 => ?_
  refine e_box 1 rfl rfl fun r2 => ?_
  refine e_assign rfl rfl ?_
  refine e_assign rfl rfl ?_
  refine e_nil ?_
  refine e_seq ?_
  refine e_seq ?_
  refine e_plain ?_
  refine e_move rfl rfl ?_
  refine e_lenV hv und28 rfl rfl rfl ?_
  refine e_gt rfl rfl rfl ?_
  refine e_as (congrArg Value.bool (decide_eq_false (by omega))) ?_
  refine e_nil ?_
  refine e_cond rfl ?_ ?_
  · intro hc0
    cases hc0
  · intro hc0
    refine e_skip ?_
    refine e_seq ?_
    refine e_seq ?_
    refine e_plain ?_
    refine e_move rfl rfl ?_
    refine e_lenV hv und28 rfl rfl rfl ?_
    refine e_move rfl rfl ?_
    refine e_conv_i und23 und3 rfl rfl (by omega) ?_
    refine e_sub_z (p := 4294967296) rfl rfl rfl (by omega) (by omega) ?_
    refine e_as (congrArg (Value.int .i64) (show (4294967296 : Int) - ((c : Nat) : Int) = ((4294967296 - c : Nat) : Int) by omega)) ?_
    refine e_mul_i (p := 64) rfl rfl rfl (by omega) ?_
    refine e_gt rfl rfl rfl ?_
    refine e_as (congrArg Value.bool (decide_eq_true (by omega))) ?_
    refine e_nil ?_
    refine e_cond rfl ?_ ?_
    · intro hc1
      refine e_seq ?_
      refine e_plain ?_
      refine e_assign rfl rfl ?_
      refine e_assign rfl rfl ?_
      refine e_nil ?_
      refine e_ret ?_
      exact ⟨_, _, rfl, .tmp rfl, .tmp rfl⟩
    · intro hc1
      cases hc1

set_option maxHeartbeats 400000 in
theorem streamed_ok (k : Nat → Nat) (c : Nat) (nn : Nat → Nat) (v : Value) (l : List Nat) (hv : Shows G 1 v l.length (l.map by8)) (hk : ∀ j, j < 32 → k j < 256) (hn : ∀ j, j < 12 → nn j < 256) (hc : c < 4294967296) (hb : l.length ≤ 1600) (ho : ¬ 64 * (4294967296 - c) < l.length) : Fx Try.prog G [] 11 #[.agg (arr .u8 32 k), uw c, .agg (arr .u8 12 nn), v] (fun v l1 nw => l1 = [] ∧ ∃ v', v = .tuple #[v', ii 0] ∧ OwnS 5 1 v' (l.length - 0) ((strl k c nn l 0).map by8) nw) := by
  refine fxN2 (n := 25) Try.func11 rfl rfl (by simp) (argE [.agg (arr .u8 32 k), uw c, .agg (arr .u8 12 nn), v] 0) (argE_ok _) ?_
  refine e_seq ?_
  refine e_plain ?_
  refine e_box 0 rfl rfl fun r1 => ?_
  refine e_box 1 rfl rfl fun r2 => ?_
  refine e_assign rfl rfl ?_
  refine e_assign rfl rfl ?_
  refine e_nil ?_
  refine e_seq ?_
  refine e_seq ?_
  refine e_plain ?_
  refine e_move rfl rfl ?_
  refine e_lenV hv und28 rfl rfl rfl ?_
  refine e_gt rfl rfl rfl ?_
  refine e_as (congrArg Value.bool (decide_eq_false (by omega))) ?_
  refine e_nil ?_
  refine e_cond rfl ?_ ?_
  · intro hc0
    cases hc0
  · intro hc0
    refine e_skip ?_
    refine e_seq ?_
    refine e_seq ?_
    refine e_plain ?_
    refine e_move rfl rfl ?_
    refine e_lenV hv und28 rfl rfl rfl ?_
    refine e_move rfl rfl ?_
    refine e_conv_i und23 und3 rfl rfl (by omega) ?_
    refine e_sub_z (p := 4294967296) rfl rfl rfl (by omega) (by omega) ?_
    refine e_as (congrArg (Value.int .i64) (show (4294967296 : Int) - ((c : Nat) : Int) = ((4294967296 - c : Nat) : Int) by omega)) ?_
    refine e_mul_i (p := 64) rfl rfl rfl (by omega) ?_
    refine e_gt rfl rfl rfl ?_
    refine e_as (congrArg Value.bool (decide_eq_false (by omega))) ?_
    refine e_nil ?_
    refine e_cond rfl ?_ ?_
    · intro hc1
      cases hc1
    · intro hc1
      refine e_skip ?_
      refine e_seq ?_
      refine e_plainR ⟨[], 4⟩ ?_
      refine e_loadA (i := 0) und41 rfl siz41 rfl rfl (arr_size _ _ _) rfl ⟨[], trivial⟩ ?_
      refine e_move rfl rfl ?_
      refine e_loadA (i := 1) und24 rfl siz24 rfl rfl (arr_size _ _ _) rfl ⟨[], trivial⟩ ?_
      refine e_move rfl rfl ?_
      refine e_callN 2 (fun v => v) rfl rfl ent23 seenG (rest_fn k c nn v l hv hk hn (by omega) 25 0 rfl (by omega)) (by simp only [maxLen]; omega) (by rw [List.length_map, strl_len, Nat.mul_one]) rfl rfl fun v3_1 oz3_1 ho3_1 => ?_
      refine e_assign rfl rfl ?_
      refine e_assign rfl rfl ?_
      refine e_nil ?_
      refine e_ret ?_
      exact ⟨_, _, _, _, 2, rfl, .tmp rfl, .tmp rfl, ho3_1, rfl⟩

end Go.Proofs.Ytmhhemhjjpdioaa
