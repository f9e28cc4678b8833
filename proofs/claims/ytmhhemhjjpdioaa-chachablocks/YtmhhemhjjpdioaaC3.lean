/-
  Walks, written by a program of ours off the loaded functions.
-/
import Derived.Test.YtmhhemhjjpdioaaC2
namespace Go.Proofs.Ytmhhemhjjpdioaa
open Go Go.RowKit


theorem byt5 : (Try.prog.info? 5).map (·.bytes) = some 1 := by kernel_rfl
theorem ent9 : enters Try.prog 9 = true := by kernel_rfl
theorem ent23 : enters Try.prog 23 = true := by kernel_rfl
theorem siz24 : (Try.prog.info? 24).map (·.size) = some 12 := by kernel_rfl
theorem siz41 : (Try.prog.info? 41).map (·.size) = some 32 := by kernel_rfl
theorem und3 : Try.prog.underlying 3 = some (.int .i64) := by kernel_rfl

variable {G : Mem}

set_option maxHeartbeats 400000 in
theorem rest_end (k : Nat → Nat) (c : Nat) (nn : Nat → Nat) (v : Value) (l : List Nat) (at_ : Nat) (hv : Shows G 1 v l.length (l.map by8)) (hat : l.length ≤ at_) : Fx Try.prog G [] 23 #[.agg (arr .u8 32 k), uw c, .agg (arr .u8 12 nn), v, ii at_] (fun v l1 nw => l1 = [] ∧ ∃ v', v = v' ∧ OwnS 5 1 v' (l.length - at_) ((strl k c nn l at_).map by8) nw) := by
  refine fxN (n := 61) Try.func23 rfl rfl (by simp) (argE [.agg (arr .u8 32 k), uw c, .agg (arr .u8 12 nn), v, ii at_] 0) (argE_ok _) ?_
  refine e_seq ?_
  refine e_plain ?_
  refine e_box 0 rfl rfl fun r1 => ?_
  refine e_box 1 rfl rfl fun r2 => ?_
  refine e_assign rfl rfl ?_
  refine e_nil ?_
  refine e_seq ?_
  refine e_seq ?_
  refine e_plain ?_
  refine e_move rfl rfl ?_
  refine e_move rfl rfl ?_
  refine e_lenV hv und28 rfl rfl rfl ?_
  refine e_ge rfl rfl rfl ?_
  refine e_as (congrArg Value.bool (decide_eq_true (by omega))) ?_
  refine e_nil ?_
  refine e_cond rfl ?_ ?_
  · intro hc0
    refine e_seq ?_
    refine e_plain ?_
    refine e_assign rfl rfl ?_
    refine e_nil ?_
    refine e_ret ?_
    exact ⟨_, _, _, 99, rfl, .tmp rfl, (own_fix (own_nil _ _) (by omega) (by rw [strl_none k c nn l hat]; rfl)), rfl⟩
  · intro hc0
    cases hc0

set_option maxHeartbeats 2000000 in
theorem rest_step (k : Nat → Nat) (c : Nat) (nn : Nat → Nat) (v : Value) (l : List Nat) (at_ : Nat) (hv : Shows G 1 v l.length (l.map by8)) (hk : ∀ j, j < 32 → k j < 256) (hn : ∀ j, j < 12 → nn j < 256) (hat : at_ < l.length) (h64 : at_ % 64 = 0) (hlen : l.length ≤ 4294967296) (ih : Fx Try.prog G [] 23 #[.agg (arr .u8 32 k), uw c, .agg (arr .u8 12 nn), v, ii (at_ + 64)] (fun v l1 nw => l1 = [] ∧ ∃ v', v = v' ∧ OwnS 5 1 v' (l.length - (at_ + 64)) ((strl k c nn l (at_ + 64)).map by8) nw)) : Fx Try.prog G [] 23 #[.agg (arr .u8 32 k), uw c, .agg (arr .u8 12 nn), v, ii at_] (fun v l1 nw => l1 = [] ∧ ∃ v', v = v' ∧ OwnS 5 1 v' (l.length - at_) ((strl k c nn l at_).map by8) nw) := by
  refine fxN (n := 61) Try.func23 rfl rfl (by simp) (argE [.agg (arr .u8 32 k), uw c, .agg (arr .u8 12 nn), v, ii at_] 0) (argE_ok _) ?_
  refine e_seq ?_
  refine e_plain ?_
  refine e_box 0 rfl rfl fun r1 => ?_
  refine e_box 1 rfl rfl fun r2 => ?_
  refine e_assign rfl rfl ?_
  refine e_nil ?_
  refine e_seq ?_
  refine e_seq ?_
  refine e_plain ?_
  refine e_move rfl rfl ?_
  refine e_move rfl rfl ?_
  refine e_lenV hv und28 rfl rfl rfl ?_
  refine e_ge rfl rfl rfl ?_
  refine e_as (congrArg Value.bool (decide_eq_false (by omega))) ?_
  refine e_nil ?_
  refine e_cond rfl ?_ ?_
  · intro hc0
    cases hc0
  · intro hc0
    refine e_skip ?_
    refine e_seq ?_
    refine e_plain ?_
    refine e_loadA (i := 0) und41 rfl siz41 rfl rfl (arr_size _ _ _) rfl ⟨[], trivial⟩ ?_
    refine e_move rfl rfl ?_
    refine e_move rfl rfl ?_
    refine e_quo_i (q := 64) rfl rfl rfl (by omega) (by omega) ?_
    refine e_conv_w und3 und23 rfl rfl ?_
    refine e_add_w rfl rfl rfl  ?_
    refine e_loadA (i := 1) und24 rfl siz24 rfl rfl (arr_size _ _ _) rfl ⟨[], trivial⟩ ?_
    refine e_call rfl ent9 (blockOf_fn k _ nn hk hn (Nat.mod_lt _ (by decide))) rfl rfl ?_
    refine e_alloc 2 zer25 rfl fun r3 => ?_
    refine e_storeA (i := 2) siz25 rfl rfl (arr_size _ _ _) arr_one rfl (arr_sz _ _ _ _ _) (.inl rfl) ?_
    refine e_nil ?_
    refine e_seq ?_
    refine e_plain ?_
    refine e_assign rfl rfl ?_
    refine e_nil ?_
    refine e_seq ?_
    refine e_seq ?_
    refine e_plain ?_
    refine e_move rfl rfl ?_
    refine e_assign rfl rfl ?_
    refine e_nil ?_
    refine e_block ?_
    refine e_loop (fun kk E m => ∃ (i : Nat) (vo : Value) (oz : Option Blk), kk = l.length - (at_ + i) ∧ E = [(1, uw c), (3, v), (4, ii at_), (5, ptr r1), (7, ptr r2), (11, ptr r3), (12, vo), (13, ii (at_ + i))] ∧ m = [(0, some ⟨r1, arr .u8 32 k, 41⟩), (1, some ⟨r2, arr .u8 12 nn, 24⟩), (2, some ⟨r3, (arr .u8 64 (blkf k ((c + at_ / 64 % 4294967296) % 4294967296) nn)), 25⟩), (9, oz)] ∧ (i ≤ 64) ∧ (at_ + i ≤ l.length) ∧ (OwnS 5 1 vo i ((strp k c nn l at_ i).map by8) (Option.toList oz))) [(1, uw c), (3, v), (4, ii at_), (5, ptr r1), (7, ptr r2), (11, ptr r3), (12, nilS), (13, ii (at_ + 0))] [(0, some ⟨r1, arr .u8 32 k, 41⟩), (1, some ⟨r2, arr .u8 12 nn, 24⟩), (2, some ⟨r3, (arr .u8 64 (blkf k ((c + at_ / 64 % 4294967296) % 4294967296) nn)), 25⟩), (9, none)] (l.length - (at_ + 0)) ⟨rfl, rfl, rfl, rfl, rfl, rfl, rfl, rfl, trivial⟩ ⟨rfl, rfl, rfl, rfl, trivial⟩ ⟨0, nilS, none, rfl, rfl, rfl, by omega, by omega, own_nil _ _⟩ ?_
    rintro kk E m ⟨i, vo, oz, rfl, rfl, rfl, hf0_0, hf0_1, hf0_2⟩
    refine e_seq ?_
    refine e_seq ?_
    rcases (show at_ + i < l.length ∨ ¬ at_ + i < l.length by omega) with hlt | hlt
    · skip
      refine e_plain ?_
      refine e_move rfl rfl ?_
      refine e_move rfl rfl ?_
      refine e_lenV hv und28 rfl rfl rfl ?_
      refine e_lt rfl rfl rfl ?_
      refine e_as (congrArg Value.bool (decide_eq_true (by omega))) ?_
      refine e_move rfl rfl ?_
      refine e_yes rfl rfl rfl ?_
      refine e_move rfl rfl ?_
      refine e_yes rfl rfl rfl ?_
      refine e_move rfl rfl ?_
      refine e_yes rfl rfl rfl ?_
      refine e_add_i (q := 64) rfl rfl rfl (by omega) ?_
      refine e_yes rfl rfl rfl ?_
      refine e_lt rfl rfl rfl ?_
      refine e_pickT rfl rfl rfl rfl ?_
      refine e_nil ?_
      refine e_cond rfl ?_ ?_
      · intro hc1
        have hc1 := of_decide_eq_true hc1
        refine e_skip ?_
        refine e_seq ?_
        refine e_block ?_
        refine e_draw mixed (by kernel_rfl) ?_
        refine e_move rfl rfl ?_
        refine e_move rfl rfl ?_
        refine e_move rfl rfl ?_
        refine e_atV hv und28 siz5 rfl rfl (by omega) rfl ?_
        refine e_as (congrArg (slAddr _) (Nat.mul_one _)) ?_
        refine e_loadV hv seenG und5 rfl rfl (by rw [List.getElem?_map, List.getElem?_eq_getElem (show at_ + i < l.length by omega)]; rfl) rfl ?_
        refine e_move rfl rfl ?_
        refine e_move rfl rfl ?_
        refine e_sub_z rfl rfl rfl (by omega) (by omega) ?_
        refine e_as (congrArg (Value.int .i64) (show ((at_ + i : Nat) : Int) - ((at_ : Nat) : Int) = ((i : Nat) : Int) by omega)) ?_
        refine e_index0 und25 siz5 rfl rfl (by omega) rfl ?_
        refine e_load1 (i := 2) und5 rfl rfl rfl (arr_get (by omega)) rfl ⟨[], trivial⟩ ?_
        refine e_xor_b rfl rfl rfl  ?_
        refine e_as (congrArg by8 (strv_at k c nn l (show at_ + i < l.length by omega) h64 (show i < 64 by omega))) ?_
        refine e_buildSl 3 #[by8 (strv k c nn l (at_ + i))] und28 siz5 zer5 (by decide) (by decide) rfl (by kernel_rfl) rfl fun r4 => ?_
        refine e_append 9 hf0_2 (shows_new _ _ (by rfl)) rfl (seen1 3 rfl ⟨[], trivial⟩) und28 siz5 byt5 zer5 (by rfl) rfl rfl (by simp [Value.oneCell']) (by simp only [maxLen]; omega) (by omega) rfl fun v4_1 oz4_1 ho4_1 => ?_
        refine e_assign rfl rfl ?_
        refine e_nil ?_
        refine e_plain ?_
        refine e_move rfl rfl ?_
        refine e_add_i (q := 1) rfl rfl rfl (by omega) ?_
        refine e_assign rfl rfl ?_
        refine e_nil ?_
        refine ⟨_, [(1, uw c), (3, v), (4, ii at_), (5, ptr r1), (7, ptr r2), (11, ptr r3), (12, _), (13, ii (at_ + (i + 1)))], [(0, some ⟨r1, arr .u8 32 k, 41⟩), (1, some ⟨r2, arr .u8 12 nn, 24⟩), (2, some ⟨r3, (arr .u8 64 (blkf k ((c + at_ / 64 % 4294967296) % 4294967296) nn)), 25⟩), (9, _)], ?_, ⟨rfl, rfl, rfl, rfl, rfl, rfl, rfl, rfl, trivial⟩, ⟨rfl, rfl, rfl, rfl, trivial⟩, i + 1, _, _, rfl, rfl, rfl, by omega, by omega, own_fix ho4_1 rfl (by rw [← strp_succ, List.map_append]; rfl)⟩
        omega
      · intro hc1
        have hc1 := of_decide_eq_false hc1
        have hfin : (i = 64 ∧ at_ + 64 ≤ l.length) ∨ (at_ + i = l.length) := by omega
        refine e_exit ?_
        refine e_seq ?_
        refine e_plainR ⟨[], 4⟩ ?_
        refine e_move rfl rfl ?_
        refine e_loadA (i := 0) und41 rfl siz41 rfl rfl (arr_size _ _ _) rfl ⟨[], trivial⟩ ?_
        refine e_move rfl rfl ?_
        refine e_loadA (i := 1) und24 rfl siz24 rfl rfl (arr_size _ _ _) rfl ⟨[], trivial⟩ ?_
        refine e_move rfl rfl ?_
        refine e_move rfl rfl ?_
        refine e_add_i (q := 64) rfl rfl rfl (by omega) ?_
        refine e_callN 3 (fun v => v) rfl rfl ent23 seenG ih (by simp only [maxLen]; omega) (by rw [List.length_map, strl_len, Nat.mul_one]) rfl rfl fun v4_1 oz4_1 ho4_1 => ?_
        refine e_append 9 hf0_2 ho4_1.shows rfl (seenM 3 rfl ⟨[], trivial⟩) und28 siz5 byt5 zer5 (by rfl) rfl rfl by8_one (by simp only [maxLen]; omega) (by omega) rfl fun v4_2 oz4_2 ho4_2 => ?_
        refine e_assign rfl rfl ?_
        refine e_nil ?_
        refine e_ret ?_
        exact ⟨_, _, _, 9, rfl, .tmp rfl, (own_fix ho4_2 (by omega) (by rw [← List.map_append, strp_all k c nn l hfin (by omega)])), rfl⟩
    · skip
      refine e_plain ?_
      refine e_move rfl rfl ?_
      refine e_move rfl rfl ?_
      refine e_lenV hv und28 rfl rfl rfl ?_
      refine e_lt rfl rfl rfl ?_
      refine e_as (congrArg Value.bool (decide_eq_false (by omega))) ?_
      refine e_move rfl rfl ?_
      refine e_no rfl rfl (by decide) rfl ?_
      refine e_no rfl rfl (by decide) rfl ?_
      refine e_no rfl rfl (by decide) rfl ?_
      refine e_no rfl rfl (by decide) rfl ?_
      refine e_pickF rfl rfl rfl rfl ?_
      refine e_nil ?_
      refine e_cond rfl ?_ ?_
      · intro hc1
        cases hc1
      · intro hc1
        have hfin : (i = 64 ∧ at_ + 64 ≤ l.length) ∨ (at_ + i = l.length) := by omega
        refine e_exit ?_
        refine e_seq ?_
        refine e_plainR ⟨[], 4⟩ ?_
        refine e_move rfl rfl ?_
        refine e_loadA (i := 0) und41 rfl siz41 rfl rfl (arr_size _ _ _) rfl ⟨[], trivial⟩ ?_
        refine e_move rfl rfl ?_
        refine e_loadA (i := 1) und24 rfl siz24 rfl rfl (arr_size _ _ _) rfl ⟨[], trivial⟩ ?_
        refine e_move rfl rfl ?_
        refine e_move rfl rfl ?_
        refine e_add_i (q := 64) rfl rfl rfl (by omega) ?_
        refine e_callN 3 (fun v => v) rfl rfl ent23 seenG ih (by simp only [maxLen]; omega) (by rw [List.length_map, strl_len, Nat.mul_one]) rfl rfl fun v4_1 oz4_1 ho4_1 => ?_
        refine e_append 9 hf0_2 ho4_1.shows rfl (seenM 3 rfl ⟨[], trivial⟩) und28 siz5 byt5 zer5 (by rfl) rfl rfl by8_one (by simp only [maxLen]; omega) (by omega) rfl fun v4_2 oz4_2 ho4_2 => ?_
        refine e_assign rfl rfl ?_
        refine e_nil ?_
        refine e_ret ?_
        exact ⟨_, _, _, 9, rfl, .tmp rfl, (own_fix ho4_2 (by omega) (by rw [← List.map_append, strp_all k c nn l hfin (by omega)])), rfl⟩

end Go.Proofs.Ytmhhemhjjpdioaa
