/-
  Walks, written by a program of ours off the loaded functions.
-/
import Derived.Test.YtmhhemhjjpdioaaC6
namespace Go.Proofs.Ytmhhemhjjpdioaa
open Go Go.RowKit


theorem ent14 : enters Try.prog 14 = true := by kernel_rfl
theorem ent15 : enters Try.prog 15 = true := by kernel_rfl
theorem siz35 : (Try.prog.info? 35).map (·.size) = some 4 := by kernel_rfl

variable {G : Mem}

set_option maxHeartbeats 4000000 in
theorem streamTwice_fn (k : Nat → Nat) (za zb zc : Int) (tx : List Nat) (v : Value) (l0 : List Nat) (z : Int) (hk : ∀ j, j < 32 → k j < 256) (ht : ∀ x ∈ tx, x < 256) (hv : Shows G 1 v l0.length (l0.map by8)) (hb : ∀ b ∈ l0, b < 256) (hB : ∀ (k : Nat → Nat) (c : Nat) (nn : Nat → Nat), (∀ j, j < 32 → k j < 256) → (∀ j, j < 12 → nn j < 256) → c < 4294967296 → Fn Try.prog G 8 #[.agg (arr .u8 32 k), uw c, .agg (arr .u8 12 nn)] (.agg (arr .u8 64 (blkf k c nn)))) (hS3 : ∀ (G : Mem) (k : Nat → Nat) (c : Nat) (nn : Nat → Nat) (v : Value) (l : List Nat), Shows G 1 v l.length (l.map by8) → (∀ b ∈ l, b < 256) → (∀ j, j < 32 → k j < 256) → (∀ j, j < 12 → nn j < 256) → c < 4294967296 → l.length ≤ 1600 → ¬ 64 * (4294967296 - c) < l.length → Fx Try.prog G [] 10 #[.agg (arr .u8 32 k), uw c, .agg (arr .u8 12 nn), v] (fun v l1 nw => l1 = [] ∧ ∃ v', v = .tuple #[v', ii 0] ∧ OwnS 5 1 v' (l.length - 0) ((strl k c nn l 0).map by8) nw)) : Fn Try.prog G 5 #[.agg (arr .u8 32 k), .agg #[.int .i64 za, .int .i64 zb, .int .i64 zc, sv tx], v, .int .i64 z] (.bool true) := by
  obtain ⟨l, hl⟩ : ∃ l, l = l0.take 300 := ⟨_, rfl⟩
  have hll : l.length ≤ 300 := by rw [hl]; simp; omega
  have hlb : ∀ x ∈ l, x < 256 := fun x hx => hb x (by rw [hl] at hx; exact List.mem_of_mem_take hx)
  have hv1 : Shows G 1 (slPart 1 v 0 (min l0.length 300)) l.length (l.map by8) := hv.cut (by omega) (by omega) ((take_min l0).trans hl.symm)
  obtain ⟨nn, hnn⟩ : ∃ nn, nn = nonf tx zb zc := ⟨_, rfl⟩
  have hnL : ∀ j, j < 12 → nn j < 256 := by rw [hnn]; exact nonf_lt ht zb zc
  obtain ⟨n, hn0⟩ : ∃ n, n = pkn z 4 := ⟨_, rfl⟩
  have hn4 : n < 4 := by rw [hn0]; exact pkn_lt z (by decide)
  have hv3 : Shows G 1 (slPart 1 (slPart 1 v 0 (min l0.length 300)) (min 64 l.length) l.length) (l.drop (min 64 l.length)).length ((l.drop (min 64 l.length)).map by8) := hv1.cut (by omega) (by omega) (cut_end l _)
  have hdl : (l.drop (min 64 l.length)).length ≤ 300 := by simp; omega
  have hsl := strl_len k n nn l 0
  have hs2 := strl_len k n nn (strl k n nn l 0) 0
  have hs3 := strl_len k (n + 1) nn (l.drop (min 64 l.length)) 0
  refine fn1 (n := 121) Try.func5 rfl rfl (by simp) (argE [.agg (arr .u8 32 k), .agg #[.int .i64 za, .int .i64 zb, .int .i64 zc, sv tx], v, .int .i64 z] 0) (argE_ok _) ?_
  refine e_seq ?_
  refine e_plain ?_
  refine e_box 0 rfl rfl fun r1 => ?_
  refine e_box 1 rfl rfl fun r2 => ?_
  refine e_assign rfl rfl ?_
  refine e_nil ?_
  refine e_seq ?_
  refine e_plain ?_
  refine e_move rfl rfl ?_
  refine e_move rfl rfl ?_
  refine e_lenV hv und28 rfl rfl rfl ?_
  refine e_min (q := 300) rfl rfl rfl rfl ?_
  refine e_sliceV 0 (min l0.length 300) hv und28 siz5 rfl rfl rfl rfl ⟨_, rfl⟩ (by omega) (by omega) rfl ?_
  refine e_assign rfl rfl ?_
  refine e_nil ?_
  refine e_seq ?_
  refine e_plain ?_
  refine e_move rfl rfl ?_
  refine e_call rfl ent13 (picked_fn z 4 (by decide) (by decide)) rfl rfl ?_
  refine e_as (congrArg ii hn0.symm) ?_
  refine e_assign rfl rfl ?_
  refine e_nil ?_
  refine e_seq ?_
  refine e_drawR ⟨[], 4⟩ mixed (by kernel_rfl) ?_
  refine e_loadA (i := 0) und22 rfl siz22 rfl rfl (arr_size _ _ _) rfl ⟨[], trivial⟩ ?_
  refine e_move rfl rfl ?_
  refine e_conv_w und3 und23 rfl rfl ?_
  refine e_as (congrArg uw (Nat.mod_eq_of_lt (show n < 4294967296 by omega))) ?_
  refine e_loadA (i := 1) und35 rfl siz35 rfl rfl rfl rfl ⟨[], trivial⟩ ?_
  refine e_call rfl ent14 (nonce_fn za zb zc tx ht) rfl rfl ?_
  refine e_as (congrArg (fun f => Value.agg (arr .u8 12 f)) hnn.symm) ?_
  refine e_move rfl rfl ?_
  refine e_callN 2 (fun v => .tuple #[v, ii 0]) rfl rfl ent10 seenG (hS3 G k n nn _ l hv1 hlb hk hnL (by omega) (by omega) (by omega)) (by simp only [maxLen]; omega) (by rw [List.length_map, strl_len, Nat.mul_one]) rfl rfl fun v1_1 oz1_1 ho1_1 => ?_
  refine e_move rfl rfl ?_
  refine e_extract rfl rfl rfl ?_
  refine e_extract rfl rfl rfl ?_
  refine e_assign rfl rfl ?_
  refine e_assign rfl rfl ?_
  refine e_nil ?_
  refine e_seq ?_
  refine e_drawR ⟨[], 4⟩ mixed (by kernel_rfl) ?_
  refine e_loadA (i := 0) und22 rfl siz22 rfl rfl (arr_size _ _ _) rfl ⟨[], trivial⟩ ?_
  refine e_move rfl rfl ?_
  refine e_conv_w und3 und23 rfl rfl ?_
  refine e_as (congrArg uw (Nat.mod_eq_of_lt (show n < 4294967296 by omega))) ?_
  refine e_loadA (i := 1) und35 rfl siz35 rfl rfl rfl rfl ⟨[], trivial⟩ ?_
  refine e_call rfl ent14 (nonce_fn za zb zc tx ht) rfl rfl ?_
  refine e_as (congrArg (fun f => Value.agg (arr .u8 12 f)) hnn.symm) ?_
  refine e_move rfl rfl ?_
  refine e_callN 3 (fun v => .tuple #[v, ii 0]) rfl rfl ent10 (seenM 2 rfl ⟨[], trivial⟩) (hS3 oz1_1.toList k n nn _ (strl k n nn l 0) (own_bytes ho1_1) (strl_lt k n nn l 0) hk hnL (by omega) (by omega) (by omega)) (by simp only [maxLen]; omega) (by rw [List.length_map, strl_len, Nat.mul_one]) rfl rfl fun v1_2 oz1_2 ho1_2 => ?_
  refine e_move rfl rfl ?_
  refine e_extract rfl rfl rfl ?_
  refine e_extract rfl rfl rfl ?_
  refine e_assign rfl rfl ?_
  refine e_assign rfl rfl ?_
  refine e_nil ?_
  refine e_seq ?_
  refine e_plain ?_
  refine e_move rfl rfl ?_
  refine e_lenV hv1 und28 rfl rfl rfl ?_
  refine e_min (p := 64) rfl rfl rfl rfl ?_
  refine e_assign rfl rfl ?_
  refine e_nil ?_
  refine e_seq ?_
  refine e_drawR ⟨[], 4⟩ mixed (by kernel_rfl) ?_
  refine e_loadA (i := 0) und22 rfl siz22 rfl rfl (arr_size _ _ _) rfl ⟨[], trivial⟩ ?_
  refine e_move rfl rfl ?_
  refine e_add_i (q := 1) rfl rfl rfl (by omega) ?_
  refine e_conv_w und3 und23 rfl rfl ?_
  refine e_as (congrArg uw (Nat.mod_eq_of_lt (show n + 1 < 4294967296 by omega))) ?_
  refine e_loadA (i := 1) und35 rfl siz35 rfl rfl rfl rfl ⟨[], trivial⟩ ?_
  refine e_call rfl ent14 (nonce_fn za zb zc tx ht) rfl rfl ?_
  refine e_as (congrArg (fun f => Value.agg (arr .u8 12 f)) hnn.symm) ?_
  refine e_move rfl rfl ?_
  refine e_move rfl rfl ?_
  refine e_sliceV (min 64 l.length) l.length hv1 und28 siz5 rfl rfl rfl ⟨_, rfl⟩ rfl (by omega) (by omega) rfl ?_
  refine e_callN 4 (fun v => .tuple #[v, ii 0]) rfl rfl ent10 seenG (hS3 G k (n + 1) nn _ (l.drop (min 64 l.length)) hv3 (fun x hx => hlb x (List.mem_of_mem_drop hx)) hk hnL (by omega) (by omega) (by omega)) (by simp only [maxLen]; omega) (by rw [List.length_map, strl_len, Nat.mul_one]) rfl rfl fun v1_3 oz1_3 ho1_3 => ?_
  refine e_move rfl rfl ?_
  refine e_extract rfl rfl rfl ?_
  refine e_extract rfl rfl rfl ?_
  refine e_assign rfl rfl ?_
  refine e_assign rfl rfl ?_
  refine e_nil ?_
  refine e_seq ?_
  refine e_draw mixed (by kernel_rfl) ?_
  refine e_loadA (i := 0) und22 rfl siz22 rfl rfl (arr_size _ _ _) rfl ⟨[], trivial⟩ ?_
  refine e_move rfl rfl ?_
  refine e_conv_w und3 und23 rfl rfl ?_
  refine e_as (congrArg uw (Nat.mod_eq_of_lt (show n < 4294967296 by omega))) ?_
  refine e_loadA (i := 1) und35 rfl siz35 rfl rfl rfl rfl ⟨[], trivial⟩ ?_
  refine e_call rfl ent14 (nonce_fn za zb zc tx ht) rfl rfl ?_
  refine e_as (congrArg (fun f => Value.agg (arr .u8 12 f)) hnn.symm) ?_
  refine e_call rfl ent8 (hB k n nn hk hnL (by omega)) rfl rfl ?_
  refine e_alloc 5 zer25 rfl fun r6 => ?_
  refine e_storeA (i := 5) siz25 rfl rfl (arr_size _ _ _) arr_one rfl (arr_sz _ _ _ _ _) (.inl rfl) ?_
  refine e_nil ?_
  refine e_seq ?_
  refine e_seq ?_
  refine e_plain ?_
  refine e_move rfl rfl ?_
  refine e_move rfl rfl ?_
  refine e_nil ?_
  refine e_block ?_
  refine e_loop (fun kk E m => ∃ (i : Nat), kk = (min 64 l.length) - i ∧ E = [(2, (slPart 1 v 0 (min l0.length 300))), (10, v1_1), (11, ii 0), (12, v1_2), (13, ii 0), (14, ii (min 64 l.length)), (15, v1_3), (16, ii 0), (17, ptr r6), (68, ii (min 64 l.length)), (69, ii i)] ∧ m = [(0, some ⟨r1, arr .u8 32 k, 22⟩), (2, oz1_1), (3, oz1_2), (4, oz1_3), (5, some ⟨r6, arr .u8 64 (blkf k n nn), 25⟩)] ∧ (i ≤ (min 64 l.length))) [(2, (slPart 1 v 0 (min l0.length 300))), (10, v1_1), (11, ii 0), (12, v1_2), (13, ii 0), (14, ii (min 64 l.length)), (15, v1_3), (16, ii 0), (17, ptr r6), (68, ii (min 64 l.length)), (69, ii 0)] [(0, some ⟨r1, arr .u8 32 k, 22⟩), (2, oz1_1), (3, oz1_2), (4, oz1_3), (5, some ⟨r6, arr .u8 64 (blkf k n nn), 25⟩)] ((min 64 l.length) - 0) ⟨rfl, rfl, rfl, rfl, rfl, rfl, rfl, rfl, rfl, rfl, rfl, trivial⟩ ⟨rfl, rfl, rfl, rfl, rfl, trivial⟩ ⟨0, rfl, rfl, rfl, by omega⟩ ?_
  rintro kk E m ⟨i, rfl, rfl, rfl, hf0_0⟩
  refine e_seq ?_
  refine e_plain ?_
  refine e_lt rfl rfl rfl ?_
  refine e_nil ?_
  refine e_seq ?_
  refine e_cond rfl ?_ ?_
  · intro hc0
    have hc0 := of_decide_eq_true hc0
    refine e_skip ?_
    refine e_seq ?_
    refine e_block ?_
    refine e_seq ?_
    refine e_plain ?_
    refine e_move rfl rfl ?_
    refine e_assign rfl rfl ?_
    refine e_nil ?_
    refine e_seq ?_
    refine e_draw mixed (by kernel_rfl) ?_
    refine e_move rfl rfl ?_
    refine e_move rfl rfl ?_
    refine e_lenV ho1_1.shows und28 rfl rfl rfl ?_
    refine e_ge rfl rfl rfl ?_
    refine e_as (congrArg Value.bool (decide_eq_false (by omega))) ?_
    refine e_move rfl rfl ?_
    refine e_yes rfl rfl rfl ?_
    refine e_move rfl rfl ?_
    refine e_yes rfl rfl rfl ?_
    refine e_move rfl rfl ?_
    refine e_yes rfl rfl rfl ?_
    refine e_atV ho1_1.shows und28 siz5 rfl rfl (by omega) rfl ?_
    refine e_as (congrArg (slAddr _) (Nat.mul_one _)) ?_
    refine e_yes rfl rfl rfl ?_
    refine e_loadV ho1_1.shows (seenM 2 rfl ⟨[], trivial⟩) und5 rfl rfl (nth_str k n nn l (by omega)) rfl ?_
    refine e_yes rfl rfl rfl ?_
    refine e_move rfl rfl ?_
    refine e_yes rfl rfl rfl ?_
    refine e_move rfl rfl ?_
    refine e_yes rfl rfl rfl ?_
    refine e_atV hv1 und28 siz5 rfl rfl (by omega) rfl ?_
    refine e_as (congrArg (slAddr _) (Nat.mul_one _)) ?_
    refine e_yes rfl rfl rfl ?_
    refine e_loadV hv1 seenG und5 rfl rfl (nth_by8 (show i < l.length by omega)) rfl ?_
    refine e_yes rfl rfl rfl ?_
    refine e_move rfl rfl ?_
    refine e_yes rfl rfl rfl ?_
    refine e_index0 und25 siz5 rfl rfl (by omega) rfl ?_
    refine e_yes rfl rfl rfl ?_
    refine e_load1 (i := 5) und5 rfl rfl rfl (arr_get (by omega)) rfl ⟨[], trivial⟩ ?_
    refine e_yes rfl rfl rfl ?_
    refine e_xor_b rfl rfl rfl  ?_
    refine e_as (congrArg by8 (strv_first k nn l (show i < l.length by omega) (by omega) (by omega))) ?_
    refine e_yes rfl rfl rfl ?_
    refine e_ne rfl rfl rfl ?_
    refine e_as (congrArg Value.bool (decide_eq_false (fun h => h rfl))) ?_
    refine e_pickF rfl rfl rfl rfl ?_
    refine e_nil ?_
    refine e_cond rfl ?_ ?_
    · intro hc1
      cases hc1
    · intro hc1
      refine e_skip ?_
      refine e_plain ?_
      refine e_add_i (q := 1) rfl rfl rfl (by omega) ?_
      refine e_move rfl rfl ?_
      refine e_nil ?_
      refine ⟨_, [(2, (slPart 1 v 0 (min l0.length 300))), (10, v1_1), (11, ii 0), (12, v1_2), (13, ii 0), (14, ii (min 64 l.length)), (15, v1_3), (16, ii 0), (17, ptr r6), (68, ii (min 64 l.length)), (69, ii (i + 1))], [(0, some ⟨r1, arr .u8 32 k, 22⟩), (2, oz1_1), (3, oz1_2), (4, oz1_3), (5, some ⟨r6, arr .u8 64 (blkf k n nn), 25⟩)], ?_, ⟨rfl, rfl, rfl, rfl, rfl, rfl, rfl, rfl, rfl, rfl, rfl, trivial⟩, ⟨rfl, rfl, rfl, rfl, rfl, trivial⟩, i + 1, rfl, rfl, rfl, by omega⟩
      omega
  · intro hc0
    have hc0 := of_decide_eq_false hc0
    refine e_exit ?_
    refine e_seq ?_
    refine e_draw mixed (by kernel_rfl) ?_
    refine e_call rfl ent15 (chachaTells_fn hB) rfl rfl ?_
    refine e_move rfl rfl ?_
    refine e_yes rfl rfl rfl ?_
    refine e_move rfl rfl ?_
    refine e_yes rfl rfl rfl ?_
    refine e_eq rfl rfl rfl ?_
    refine e_as (congrArg Value.bool (decide_eq_true rfl)) ?_
    refine e_pickT rfl rfl rfl rfl ?_
    refine e_move rfl rfl ?_
    refine e_yes rfl rfl rfl ?_
    refine e_move rfl rfl ?_
    refine e_yes rfl rfl rfl ?_
    refine e_eq rfl rfl rfl ?_
    refine e_as (congrArg Value.bool (decide_eq_true rfl)) ?_
    refine e_pickT rfl rfl rfl rfl ?_
    refine e_move rfl rfl ?_
    refine e_yes rfl rfl rfl ?_
    refine e_move rfl rfl ?_
    refine e_yes rfl rfl rfl ?_
    refine e_eq rfl rfl rfl ?_
    refine e_as (congrArg Value.bool (decide_eq_true rfl)) ?_
    refine e_pickT rfl rfl rfl rfl ?_
    refine e_move rfl rfl ?_
    refine e_yes rfl rfl rfl ?_
    refine e_move rfl rfl ?_
    refine e_yes rfl rfl rfl ?_
    refine e_conv_strV (l := (strl k n nn (strl k n nn l 0) 0)) (own_bytes ho1_2) (seenM 3 rfl ⟨[], trivial⟩) und28 und5 und9 rfl rfl ?_
    refine e_as (congrArg sv (str_twice k n nn hlb)) ?_
    refine e_yes rfl rfl rfl ?_
    refine e_move rfl rfl ?_
    refine e_yes rfl rfl rfl ?_
    refine e_conv_strV (l := l) hv1 seenG und28 und5 und9 rfl rfl ?_
    refine e_yes rfl rfl rfl ?_
    refine e_eqStr rfl rfl rfl hlb hlb ?_
    refine e_as (congrArg Value.bool (decide_eq_true rfl)) ?_
    refine e_pickT rfl rfl rfl rfl ?_
    refine e_move rfl rfl ?_
    refine e_yes rfl rfl rfl ?_
    refine e_move rfl rfl ?_
    refine e_yes rfl rfl rfl ?_
    refine e_move rfl rfl ?_
    refine e_yes rfl rfl rfl ?_
    refine e_sliceV (min 64 l.length) (l.length - 0) ho1_1.shows und28 siz5 rfl rfl rfl ⟨_, rfl⟩ rfl (by omega) (by omega) rfl ?_
    refine e_yes rfl rfl rfl ?_
    refine e_conv_strV (l := ((strl k n nn l 0).drop (min 64 l.length))) (Shows.cut (i := (min 64 l.length)) (j := l.length - 0) (own_bytes ho1_1) (by omega) (by omega) (cut_rest k n nn l)) (seenM 2 rfl ⟨[], trivial⟩) und28 und5 und9 rfl rfl ?_
    refine e_as (congrArg sv (str_rest k nn l hll)) ?_
    refine e_yes rfl rfl rfl ?_
    refine e_move rfl rfl ?_
    refine e_yes rfl rfl rfl ?_
    refine e_conv_strV (l := (strl k (n + 1) nn (l.drop (min 64 l.length)) 0)) (own_bytes ho1_3) (seenM 4 rfl ⟨[], trivial⟩) und28 und5 und9 rfl rfl ?_
    refine e_yes rfl rfl rfl ?_
    refine e_eqStr rfl rfl rfl (strl_lt _ _ _ _ _) (strl_lt _ _ _ _ _) ?_
    refine e_as (congrArg Value.bool (decide_eq_true rfl)) ?_
    refine e_pickT rfl rfl rfl rfl ?_
    refine e_assign rfl rfl ?_
    refine e_nil ?_
    refine e_ret ?_
    exact ⟨_, rfl, .tmp rfl⟩

end Go.Proofs.Ytmhhemhjjpdioaa
