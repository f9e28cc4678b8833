/-
  Walks, written by a program of ours off the loaded functions.
-/
import Derived.Test.YtmhhemhjjpdioaaC5
import Derived.Test.YtmhhemhjjpdioaaCh4
namespace Go.Proofs.Ytmhhemhjjpdioaa
open Go Go.RowKit


theorem ent13 : enters Try.prog 13 = true := by kernel_rfl
theorem sis5 : ((Try.prog.info? 5).map (·.size)).isSome = true := by kernel_rfl
theorem siz3 : (Try.prog.info? 3).map (·.size) = some 1 := by kernel_rfl
theorem siz9 : (Try.prog.info? 9).map (·.size) = some 1 := by kernel_rfl
theorem und35 : Try.prog.underlying 35 = some (.struct #[.mk "Kind" 3 0 false "" "" 0, .mk "A" 3 1 false "" "" 8, .mk "B" 3 2 false "" "" 16, .mk "Text" 9 3 false "" "" 24]) := by kernel_rfl
theorem zer24 : (Try.prog.info? 24).bind (·.zero) = some (.agg (arr .u8 12 fun _ => 0)) := by kernel_rfl
theorem zer41 : (Try.prog.info? 41).bind (·.zero) = some (.agg (arr .u8 32 fun _ => 0)) := by kernel_rfl

variable {G : Mem}

set_option maxHeartbeats 400000 in
theorem picked_fn (z : Int) (m : Nat) (hm : 0 < m) (hm2 : m < 4294967296) : Fn Try.prog G 13 #[.int .i64 z, ii m] (ii (pkn z m)) := by
  have htm := tmod_bd z hm
  refine fn1 (n := 14) Try.func13 rfl rfl (by simp) (argE [.int .i64 z, ii m] 0) (argE_ok _) ?_
  refine e_seq ?_
  refine e_plain ?_
  refine e_assign rfl rfl ?_
  refine e_nil ?_
  refine e_seq ?_
  refine e_plain ?_
  refine e_move rfl rfl ?_
  refine e_move rfl rfl ?_
  refine e_rem_z rfl rfl rfl (by omega) ?_
  refine e_assign rfl rfl ?_
  refine e_nil ?_
  refine e_seq ?_
  refine e_seq ?_
  refine e_plain ?_
  refine e_move rfl rfl ?_
  refine e_lt rfl rfl rfl ?_
  refine e_nil ?_
  refine e_cond rfl ?_ ?_
  · intro hc0
    have hc0 := of_decide_eq_true hc0
    refine e_plain ?_
    refine e_move rfl rfl ?_
    refine e_move rfl rfl ?_
    refine e_add_z rfl rfl rfl (by omega) (by omega) ?_
    refine e_as (congrArg (Value.int .i64) (pkn_neg hm hc0)) ?_
    refine e_assign rfl rfl ?_
    refine e_nil ?_
    refine e_seq ?_
    refine e_plain ?_
    refine e_move rfl rfl ?_
    refine e_assign rfl rfl ?_
    refine e_nil ?_
    refine e_ret ?_
    exact ⟨_, rfl, .tmp rfl⟩
  · intro hc0
    have hc0 := of_decide_eq_false hc0
    rw [ii, ← pkn_pos hm hc0]
    refine e_skip ?_
    refine e_seq ?_
    refine e_plain ?_
    refine e_move rfl rfl ?_
    refine e_assign rfl rfl ?_
    refine e_nil ?_
    refine e_ret ?_
    exact ⟨_, rfl, .tmp rfl⟩

set_option maxHeartbeats 400000 in
theorem nonce_fn (za zb zc : Int) (tx : List Nat) (ht : ∀ x ∈ tx, x < 256) : Fn Try.prog G 14 #[.agg #[.int .i64 za, .int .i64 zb, .int .i64 zc, sv tx]] (.agg (arr .u8 12 (nonf tx zb zc))) := by
  refine fn1 (n := 17) Try.func14 rfl rfl (by simp) (argE [.agg #[.int .i64 za, .int .i64 zb, .int .i64 zc, sv tx]] 0) (argE_ok _) ?_
  refine e_seq ?_
  refine e_plain ?_
  refine e_box 0 rfl rfl fun r1 => ?_
  refine e_alloc 1 zer24 rfl fun r2 => ?_
  refine e_nil ?_
  refine e_seq ?_
  refine e_plain ?_
  refine e_alloc 2 zer24 rfl fun r3 => ?_
  refine e_nil ?_
  refine e_seq ?_
  refine e_draw mixed (by kernel_rfl) ?_
  refine e_sliceA 0 12 und24 siz5 rfl rfl rfl rfl rfl (by omega) (by omega) (by omega) rfl ?_
  refine e_fld (3) und35 rfl siz9 rfl rfl rfl ?_
  refine e_load1 (i := 0) und9 rfl rfl rfl rfl rfl ⟨[], trivial⟩ ?_
  refine e_copyStr (i := 2) und28 siz5 rfl rfl ht rfl (by omega) rfl ?_
  refine e_nil ?_
  refine e_seq ?_
  refine e_drawR ⟨[r3], 1⟩ mixed (by kernel_rfl) ?_
  refine e_fld (1) und35 rfl siz3 rfl rfl rfl ?_
  refine e_load1 (i := 0) und3 rfl rfl rfl rfl rfl ⟨[2], rfl, rfl, trivial⟩ ?_
  refine e_conv_u8z und3 und5 rfl rfl ?_
  refine e_fld (2) und35 rfl siz3 rfl rfl rfl ?_
  refine e_load1 (i := 0) und3 rfl rfl rfl rfl rfl ⟨[2], rfl, rfl, trivial⟩ ?_
  refine e_conv_u8z und3 und5 rfl rfl ?_
  refine e_index0 (j := 10) und24 siz5 rfl rfl (by omega) rfl ?_
  refine e_storeN (i := 2) siz5 rfl rfl rfl (by omega) (.inr (by simp)) ?_
  refine e_index0 (j := 11) und24 siz5 rfl rfl (by omega) rfl ?_
  refine e_storeN (i := 2) siz5 rfl rfl rfl (by omega) (.inr (by simp)) ?_
  refine e_nil ?_
  refine e_seq ?_
  refine e_plain ?_
  refine e_loadA (i := 2) und24 rfl siz24 rfl rfl (arr_size _ _ _) rfl ⟨[], trivial⟩ ?_
  refine e_as (congrArg Value.agg (non_end tx zb zc)) ?_
  refine e_storeA (i := 1) siz24 rfl rfl (arr_size _ _ _) arr_one rfl (arr_sz _ _ _ _ _) (.inl rfl) ?_
  refine e_nil ?_
  refine e_ret ?_
  exact ⟨_, rfl, .cell (i := 1) rfl rfl und24 rfl siz24 (arr_size _ _ _)⟩

set_option maxHeartbeats 400000 in
theorem chachaTells_fn (hB : ∀ (k : Nat → Nat) (c : Nat) (nn : Nat → Nat), (∀ j, j < 32 → k j < 256) → (∀ j, j < 12 → nn j < 256) → c < 4294967296 → Fn Try.prog G 8 #[.agg (arr .u8 32 k), uw c, .agg (arr .u8 12 nn)] (.agg (arr .u8 64 (blkf k c nn)))) : Fn Try.prog G 15 #[] (.bool true) := by
  refine fn1 (n := 8) Try.func15 rfl rfl (by simp) (argE [] 0) (argE_ok _) ?_
  refine e_seq ?_
  refine e_plain ?_
  refine e_assign rfl rfl ?_
  refine e_nil ?_
  refine e_seq ?_
  refine e_plain ?_
  refine e_build0 zer41 und41 sis5 rfl ?_
  refine e_build0 zer24 und24 sis5 rfl ?_
  refine e_call rfl ent8 (hB (fun _ => 0) 0 (fun _ => 0) (fun _ _ => by decide) (fun _ _ => by decide) (by decide)) rfl rfl ?_
  refine e_alloc 0 zer25 rfl fun r1 => ?_
  refine e_storeA (i := 0) siz25 rfl rfl (arr_size _ _ _) arr_one rfl (arr_sz _ _ _ _ _) (.inl rfl) ?_
  refine e_nil ?_
  refine e_seq ?_
  refine e_plain ?_
  refine e_index0 (j := 0) und25 siz5 rfl rfl (by omega) rfl ?_
  refine e_load1 (i := 0) und5 rfl rfl rfl (arr_get (by omega)) rfl ⟨[], trivial⟩ ?_
  refine e_as (congrArg by8 ko_out) ?_
  refine e_eq rfl rfl rfl ?_
  refine e_as (congrArg Value.bool (decide_eq_true rfl)) ?_
  refine e_assign rfl rfl ?_
  refine e_nil ?_
  refine e_ret ?_
  exact ⟨_, rfl, .tmp rfl⟩

set_option maxHeartbeats 400000 in
theorem chachaKnown_fn (z : Int) (hB : ∀ (k : Nat → Nat) (c : Nat) (nn : Nat → Nat), (∀ j, j < 32 → k j < 256) → (∀ j, j < 12 → nn j < 256) → c < 4294967296 → Fn Try.prog G 8 #[.agg (arr .u8 32 k), uw c, .agg (arr .u8 12 nn)] (.agg (arr .u8 64 (blkf k c nn)))) : Fn Try.prog G 7 #[.int .i64 z] (.bool true) := by
  refine fn1 (n := 26) Try.func7 rfl rfl (by simp) (argE [.int .i64 z] 0) (argE_ok _) ?_
  refine e_seq ?_
  refine e_plain ?_
  refine e_assign rfl rfl ?_
  refine e_nil ?_
  refine e_seq ?_
  refine e_plain ?_
  refine e_alloc 0 zer41 rfl fun r1 => ?_
  refine e_nil ?_
  refine e_seq ?_
  refine e_seq ?_
  refine e_plain ?_
  refine e_move rfl rfl ?_
  refine e_nil ?_
  refine e_block ?_
  refine e_loop (fun kk E m => ∃ (i : Nat) (s : Nat → Nat), kk = 32 - i ∧ E = [(0, .int .i64 z), (3, ptr r1), (7, ii i)] ∧ m = [(0, some ⟨r1, arr .u8 32 s, 41⟩)] ∧ (i ≤ 32) ∧ (∀ t, t < i → s t = knk t)) [(0, .int .i64 z), (3, ptr r1), (7, ii 0)] [(0, some ⟨r1, arr .u8 32 (fun _ => 0), 41⟩)] (32 - 0) ⟨rfl, rfl, rfl, trivial⟩ ⟨rfl, trivial⟩ ⟨0, fun _ => 0, rfl, rfl, rfl, by omega, fun t ht => absurd ht (Nat.not_lt_zero t)⟩ ?_
  rintro kk E m ⟨i, s, rfl, rfl, rfl, hf0_0, hf0_1⟩
  refine e_seq ?_
  refine e_plain ?_
  refine e_lt rfl rfl rfl ?_
  refine e_nil ?_
  refine e_seq ?_
  refine e_cond rfl ?_ ?_
  · intro hc0
    have hc0 := of_decide_eq_true hc0
    refine e_skip ?_
    refine e_seq ?_
    refine e_block ?_
    refine e_seq ?_
    refine e_plain ?_
    refine e_move rfl rfl ?_
    refine e_assign rfl rfl ?_
    refine e_nil ?_
    refine e_plain ?_
    refine e_move rfl rfl ?_
    refine e_move rfl rfl ?_
    refine e_conv_u8 und3 und5 rfl rfl ?_
    refine e_index0 und41 siz5 rfl rfl (by omega) rfl ?_
    refine e_storeN (i := 0) siz5 rfl rfl rfl (by omega) (.inl rfl) ?_
    refine e_nil ?_
    refine e_plain ?_
    refine e_add_i (q := 1) rfl rfl rfl (by omega) ?_
    refine e_move rfl rfl ?_
    refine e_nil ?_
    refine ⟨_, [(0, .int .i64 z), (3, ptr r1), (7, ii (i + 1))], [(0, some ⟨r1, arr .u8 32 (upd s i _), 41⟩)], ?_, ⟨rfl, rfl, rfl, trivial⟩, ⟨rfl, trivial⟩, i + 1, upd s i _, rfl, rfl, rfl, by omega, upd_lt hf0_1 (by show i % 256 = i; omega)⟩
    omega
  · intro hc0
    have hc0 := of_decide_eq_false hc0
    have hi : i = 32 := by omega
    subst hi
    have hp := pkn_lt z (show 0 < 8 by decide)
    have hpo := kn_out (pkn z 8) hp
    refine e_exit ?_
    refine e_seq ?_
    refine e_plain ?_
    refine e_loadA (i := 0) und41 rfl siz41 rfl rfl (arr_size _ _ _) rfl ⟨[], trivial⟩ ?_
    refine e_as (congrArg Value.agg (arr_congr hf0_1)) ?_
    refine e_build (arr .u8 12 knn) zer24 und24 siz5 rfl (by kernel_rfl) rfl ?_
    refine e_call rfl ent8 (hB knk 1 knn (fun j hj => by show j < 256; omega) (by decide) (by decide)) rfl rfl ?_
    refine e_alloc 1 zer25 rfl fun r2 => ?_
    refine e_storeA (i := 1) siz25 rfl rfl (arr_size _ _ _) arr_one rfl (arr_sz _ _ _ _ _) (.inl rfl) ?_
    refine e_nil ?_
    refine e_seq ?_
    refine e_plain ?_
    refine e_move rfl rfl ?_
    refine e_call rfl ent13 (picked_fn z 8 (by decide) (by decide)) rfl rfl ?_
    refine e_assign rfl rfl ?_
    refine e_nil ?_
    refine e_seq ?_
    refine e_draw mixed (by kernel_rfl) ?_
    refine e_move rfl rfl ?_
    refine e_index0 und25 siz5 rfl rfl (by omega) rfl ?_
    refine e_load1 (i := 1) und5 rfl rfl rfl (arr_get (by omega)) rfl ⟨[], trivial⟩ ?_
    refine e_as (congrArg by8 hpo) ?_
    refine e_move rfl rfl ?_
    refine e_idxStr (l := [16, 241, 231, 228, 209, 59, 89, 21]) und9 rfl rfl (show knA[pkn z 8]? = some (knA.getD (pkn z 8) 0) by rw [List.getD_eq_getElem?_getD, List.getElem?_eq_getElem (show pkn z 8 < knA.length from hp)]; rfl) (by rw [← hpo]; exact blkf_lt _ _ _ _) rfl ?_
    refine e_eq rfl rfl rfl ?_
    refine e_as (congrArg Value.bool (decide_eq_true rfl)) ?_
    refine e_assign rfl rfl ?_
    refine e_nil ?_
    refine e_ret ?_
    exact ⟨_, rfl, .tmp rfl⟩

set_option maxHeartbeats 400000 in
theorem streamOver_fn (k : Nat → Nat) (z y : Int) (hk : ∀ j, j < 32 → k j < 256) (hS2 : ∀ (G : Mem) (k : Nat → Nat) (c : Nat) (nn : Nat → Nat) (v : Value) (l : List Nat), Shows G 1 v l.length (l.map by8) → (∀ b ∈ l, b < 256) → (∀ j, j < 32 → k j < 256) → (∀ j, j < 12 → nn j < 256) → c < 4294967296 → l.length ≤ 1600 → 64 * (4294967296 - c) < l.length → Fn Try.prog G 10 #[.agg (arr .u8 32 k), uw c, .agg (arr .u8 12 nn), v] (.tuple #[nilS, ii 11])) (hS3 : ∀ (G : Mem) (k : Nat → Nat) (c : Nat) (nn : Nat → Nat) (v : Value) (l : List Nat), Shows G 1 v l.length (l.map by8) → (∀ b ∈ l, b < 256) → (∀ j, j < 32 → k j < 256) → (∀ j, j < 12 → nn j < 256) → c < 4294967296 → l.length ≤ 1600 → ¬ 64 * (4294967296 - c) < l.length → Fx Try.prog G [] 10 #[.agg (arr .u8 32 k), uw c, .agg (arr .u8 12 nn), v] (fun v l1 nw => l1 = [] ∧ ∃ v', v = .tuple #[v', ii 0] ∧ OwnS 5 1 v' (l.length - 0) ((strl k c nn l 0).map by8) nw)) : Fn Try.prog G 6 #[.agg (arr .u8 32 k), .int .i64 z, .int .i64 y] (.bool true) := by
  have hp := pkn_lt z (show 0 < 5 by decide)
  have hq := pkn_lt y (show 0 < 100 by decide)
  refine fn1 (n := 49) Try.func6 rfl rfl (by simp) (argE [.agg (arr .u8 32 k), .int .i64 z, .int .i64 y] 0) (argE_ok _) ?_
  refine e_seq ?_
  refine e_plain ?_
  refine e_box 0 rfl rfl fun r1 => ?_
  refine e_assign rfl rfl ?_
  refine e_nil ?_
  refine e_seq ?_
  refine e_plain ?_
  refine e_move rfl rfl ?_
  refine e_call rfl ent13 (picked_fn z 5 (by decide) (by decide)) rfl rfl ?_
  refine e_conv_w und3 und23 rfl rfl ?_
  refine e_as (congrArg uw (Nat.mod_eq_of_lt (show pkn z 5 < 4294967296 by omega))) ?_
  refine e_sub_w (p := 4294967295) rfl rfl rfl (by omega) ?_
  refine e_as (congrArg uw (show (4294967295 + 4294967296 - pkn z 5) % 4294967296 = 4294967295 - pkn z 5 by omega)) ?_
  refine e_assign rfl rfl ?_
  refine e_nil ?_
  refine e_seq ?_
  refine e_plain ?_
  refine e_move rfl rfl ?_
  refine e_call rfl ent13 (picked_fn z 5 (by decide) (by decide)) rfl rfl ?_
  refine e_add_i (q := 1) rfl rfl rfl (by omega) ?_
  refine e_mul_i (p := 64) rfl rfl rfl (by omega) ?_
  refine e_assign rfl rfl ?_
  refine e_nil ?_
  refine e_seq ?_
  refine e_drawR ⟨[], 4⟩ mixed (by kernel_rfl) ?_
  refine e_loadA (i := 0) und22 rfl siz22 rfl rfl (arr_size _ _ _) rfl ⟨[], trivial⟩ ?_
  refine e_move rfl rfl ?_
  refine e_build0 zer24 und24 sis5 rfl ?_
  refine e_move rfl rfl ?_
  refine e_make 1 und28 siz5 byt5 zer5 rfl rfl rfl (by omega) (by omega) rfl fun r2 => ?_
  refine e_callN 2 (fun v => .tuple #[v, ii 0]) rfl rfl ent10 (seen1 1 rfl ⟨[], trivial⟩) (hS3 _ k (4294967295 - pkn z 5) (fun _ => 0) _ (zrs (64 * (pkn z 5 + 1))) (made_shows _ _ _) (zrs_lt _) hk (fun _ _ => by decide) (by omega) (by rw [zrs_len]; omega) (by rw [zrs_len]; omega)) (by rw [zrs_len]; simp only [maxLen]; omega) (by rw [List.length_map, strl_len, Nat.mul_one]) rfl rfl fun v1_1 oz1_1 ho1_1 => ?_
  refine e_move rfl rfl ?_
  refine e_extract rfl rfl rfl ?_
  refine e_extract rfl rfl rfl ?_
  refine e_assign rfl rfl ?_
  refine e_assign rfl rfl ?_
  refine e_nil ?_
  refine e_seq ?_
  refine e_draw mixed (by kernel_rfl) ?_
  refine e_loadA (i := 0) und22 rfl siz22 rfl rfl (arr_size _ _ _) rfl ⟨[], trivial⟩ ?_
  refine e_move rfl rfl ?_
  refine e_build0 zer24 und24 sis5 rfl ?_
  refine e_move rfl rfl ?_
  refine e_add_i (q := 1) rfl rfl rfl (by omega) ?_
  refine e_move rfl rfl ?_
  refine e_call rfl ent13 (picked_fn y 100 (by decide) (by decide)) rfl rfl ?_
  refine e_add_i rfl rfl rfl (by omega) ?_
  refine e_make 3 und28 siz5 byt5 zer5 rfl rfl rfl (by omega) (by omega) rfl fun r4 => ?_
  refine e_callV [⟨r4, arr .u8 (64 * (pkn z 5 + 1) + 1 + pkn y 100) (fun _ => 0), 5⟩] rfl rfl ent10 ⟨⟨3, rfl⟩, trivial⟩ (hS2 _ k (4294967295 - pkn z 5) (fun _ => 0) _ (zrs (64 * (pkn z 5 + 1) + 1 + pkn y 100)) (made_shows _ _ _) (zrs_lt _) hk (fun _ _ => by decide) (by omega) (by rw [zrs_len]; omega) (by rw [zrs_len]; omega)) rfl rfl rfl ?_
  refine e_move rfl rfl ?_
  refine e_extract rfl rfl rfl ?_
  refine e_extract rfl rfl rfl ?_
  refine e_assign rfl rfl ?_
  refine e_assign rfl rfl ?_
  refine e_nil ?_
  refine e_seq ?_
  refine e_plain ?_
  refine e_move rfl rfl ?_
  refine e_eq rfl rfl rfl ?_
  refine e_as (congrArg Value.bool (decide_eq_true rfl)) ?_
  refine e_move rfl rfl ?_
  refine e_yes rfl rfl rfl ?_
  refine e_move rfl rfl ?_
  refine e_yes rfl rfl rfl ?_
  refine e_eq rfl rfl rfl ?_
  refine e_as (congrArg Value.bool (decide_eq_true rfl)) ?_
  refine e_pickT rfl rfl rfl rfl ?_
  refine e_assign rfl rfl ?_
  refine e_nil ?_
  refine e_ret ?_
  exact ⟨_, rfl, .tmp rfl⟩

end Go.Proofs.Ytmhhemhjjpdioaa
