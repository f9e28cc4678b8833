/-
  Walks, written by a program of ours off the loaded functions.
-/
import Derived.Test.YtmhhemhjjpdioaaC4
namespace Go.Proofs.Ytmhhemhjjpdioaa
open Go Go.RowKit


theorem ent8 : enters Try.prog 8 = true := by kernel_rfl
theorem ent10 : enters Try.prog 10 = true := by kernel_rfl
theorem ent11 : enters Try.prog 11 = true := by kernel_rfl
theorem ent12 : enters Try.prog 12 = true := by kernel_rfl
theorem eqg25 : Try.prog.eqGuardType Try.prog.depth 25 = false := by kernel_rfl
theorem siz22 : (Try.prog.info? 22).map (·.size) = some 32 := by kernel_rfl
theorem und22 : Try.prog.underlying 22 = some (.array 32 5) := by kernel_rfl

variable {G : Mem}

set_option maxHeartbeats 400000 in
theorem chachaBlocks_fn (k : Nat → Nat) (c : Nat) (nn : Nat → Nat) (hk : ∀ j, j < 32 → k j < 256) (hn : ∀ j, j < 12 → nn j < 256) (hc : c < 4294967296) (hB : ∀ (k : Nat → Nat) (c : Nat) (nn : Nat → Nat), (∀ j, j < 32 → k j < 256) → (∀ j, j < 12 → nn j < 256) → c < 4294967296 → Fn Try.prog G 8 #[.agg (arr .u8 32 k), uw c, .agg (arr .u8 12 nn)] (.agg (arr .u8 64 (blkf k c nn)))) : Fn Try.prog G 3 #[.agg (arr .u8 32 k), uw c, .agg (arr .u8 12 nn)] (.bool true) := by
  refine fn1 (n := 20) Try.func3 rfl rfl (by simp) (argE [.agg (arr .u8 32 k), uw c, .agg (arr .u8 12 nn)] 0) (argE_ok _) ?_
  refine e_seq ?_
  refine e_plain ?_
  refine e_box 0 rfl rfl fun r1 => ?_
  refine e_box 1 rfl rfl fun r2 => ?_
  refine e_assign rfl rfl ?_
  refine e_nil ?_
  refine e_seq ?_
  refine e_plain ?_
  refine e_loadA (i := 0) und22 rfl siz22 rfl rfl (arr_size _ _ _) rfl ⟨[], trivial⟩ ?_
  refine e_move rfl rfl ?_
  refine e_loadA (i := 1) und24 rfl siz24 rfl rfl (arr_size _ _ _) rfl ⟨[], trivial⟩ ?_
  refine e_call rfl ent8 (hB k c nn hk hn hc) rfl rfl ?_
  refine e_alloc 2 zer25 rfl fun r3 => ?_
  refine e_storeA (i := 2) siz25 rfl rfl (arr_size _ _ _) arr_one rfl (arr_sz _ _ _ _ _) (.inl rfl) ?_
  refine e_nil ?_
  refine e_seq ?_
  refine e_plain ?_
  refine e_loadA (i := 0) und22 rfl siz22 rfl rfl (arr_size _ _ _) rfl ⟨[], trivial⟩ ?_
  refine e_move rfl rfl ?_
  refine e_loadA (i := 1) und24 rfl siz24 rfl rfl (arr_size _ _ _) rfl ⟨[], trivial⟩ ?_
  refine e_call rfl ent9 (blockOf_fn k c nn hk hn hc) rfl rfl ?_
  refine e_alloc 3 zer25 rfl fun r4 => ?_
  refine e_storeA (i := 3) siz25 rfl rfl (arr_size _ _ _) arr_one rfl (arr_sz _ _ _ _ _) (.inl rfl) ?_
  refine e_nil ?_
  refine e_seq ?_
  refine e_plain ?_
  refine e_loadA (i := 2) und25 rfl siz25 rfl rfl (arr_size _ _ _) rfl ⟨[], trivial⟩ ?_
  refine e_loadA (i := 3) und25 rfl siz25 rfl rfl (arr_size _ _ _) rfl ⟨[], trivial⟩ ?_
  refine e_eqA und25 und5 siz5 eqg25 rfl rfl rfl ?_
  refine e_as (congrArg Value.bool (allEq_iff.2 (fun _ _ => rfl))) ?_
  refine e_assign rfl rfl ?_
  refine e_nil ?_
  refine e_ret ?_
  exact ⟨_, rfl, .tmp rfl⟩

set_option maxHeartbeats 400000 in
theorem sameBytes_fn (v v2 : Value) (l l2 : List Nat) (hv : Shows G 1 v l.length (l.map by8)) (hv2 : Shows G 1 v2 l2.length (l2.map by8)) (hb : ∀ b ∈ l, b < 256) (hb2 : ∀ b ∈ l2, b < 256) : Fn Try.prog G 12 #[v, v2] (.bool (decide (l = l2))) := by
  refine fn1 (n := 10) Try.func12 rfl rfl (by simp) (argE [v, v2] 0) (argE_ok _) ?_
  refine e_seq ?_
  refine e_plain ?_
  refine e_assign rfl rfl ?_
  refine e_nil ?_
  refine e_seq ?_
  refine e_plain ?_
  refine e_move rfl rfl ?_
  refine e_conv_strV hv seenG und28 und5 und9 rfl rfl ?_
  refine e_move rfl rfl ?_
  refine e_conv_strV hv2 seenG und28 und5 und9 rfl rfl ?_
  refine e_eqStr rfl rfl rfl hb hb2 ?_
  refine e_assign rfl rfl ?_
  refine e_nil ?_
  refine e_ret ?_
  exact ⟨_, rfl, .tmp rfl⟩

set_option maxHeartbeats 400000 in
theorem chachaStreams_big (k : Nat → Nat) (c : Nat) (nn : Nat → Nat) (v : Value) (l : List Nat) (hv : Shows G 1 v l.length (l.map by8)) (hb : ∀ b ∈ l, b < 256) (hk : ∀ j, j < 32 → k j < 256) (hn : ∀ j, j < 12 → nn j < 256) (hc : c < 4294967296) (hl : 1600 < l.length) (hS1 : ∀ (G : Mem) (k : Nat → Nat) (c : Nat) (nn : Nat → Nat) (v : Value) (l : List Nat), Shows G 1 v l.length (l.map by8) → (∀ b ∈ l, b < 256) → (∀ j, j < 32 → k j < 256) → (∀ j, j < 12 → nn j < 256) → c < 4294967296 → 1600 < l.length → Fn Try.prog G 10 #[.agg (arr .u8 32 k), uw c, .agg (arr .u8 12 nn), v] (.tuple #[nilS, ii 1])) : Fn Try.prog G 4 #[.agg (arr .u8 32 k), uw c, .agg (arr .u8 12 nn), v] (.bool true) := by
  refine fn1 (n := 37) Try.func4 rfl rfl (by simp) (argE [.agg (arr .u8 32 k), uw c, .agg (arr .u8 12 nn), v] 0) (argE_ok _) ?_
  refine e_seq ?_
  refine e_plain ?_
  refine e_box 0 rfl rfl fun r1 => ?_
  refine e_box 1 rfl rfl fun r2 => ?_
  refine e_assign rfl rfl ?_
  refine e_nil ?_
  refine e_seq ?_
  refine e_plain ?_
  refine e_loadA (i := 0) und22 rfl siz22 rfl rfl (arr_size _ _ _) rfl ⟨[], trivial⟩ ?_
  refine e_move rfl rfl ?_
  refine e_loadA (i := 1) und24 rfl siz24 rfl rfl (arr_size _ _ _) rfl ⟨[], trivial⟩ ?_
  refine e_move rfl rfl ?_
  refine e_call rfl ent10 (hS1 G k c nn v l hv hb hk hn hc hl) rfl rfl ?_
  refine e_move rfl rfl ?_
  refine e_extract rfl rfl rfl ?_
  refine e_extract rfl rfl rfl ?_
  refine e_assign rfl rfl ?_
  refine e_assign rfl rfl ?_
  refine e_nil ?_
  refine e_seq ?_
  refine e_plain ?_
  refine e_loadA (i := 0) und22 rfl siz22 rfl rfl (arr_size _ _ _) rfl ⟨[], trivial⟩ ?_
  refine e_move rfl rfl ?_
  refine e_loadA (i := 1) und24 rfl siz24 rfl rfl (arr_size _ _ _) rfl ⟨[], trivial⟩ ?_
  refine e_move rfl rfl ?_
  refine e_call rfl ent11 (streamed_big k c nn v l hv hl) rfl rfl ?_
  refine e_move rfl rfl ?_
  refine e_extract rfl rfl rfl ?_
  refine e_extract rfl rfl rfl ?_
  refine e_assign rfl rfl ?_
  refine e_assign rfl rfl ?_
  refine e_nil ?_
  refine e_seq ?_
  refine e_plain ?_
  refine e_move rfl rfl ?_
  refine e_move rfl rfl ?_
  refine e_callV [] rfl rfl ent12 trivial (sameBytes_fn (G := []) nilS nilS [] [] (.inl ⟨rfl, rfl, none, 0, rfl, fun _ => rfl⟩ : Shows [] 1 nilS ([] : List Nat).length (([] : List Nat).map by8)) (.inl ⟨rfl, rfl, none, 0, rfl, fun _ => rfl⟩ : Shows [] 1 nilS ([] : List Nat).length (([] : List Nat).map by8)) (by simp) (by simp)) rfl rfl rfl ?_
  refine e_as (congrArg Value.bool (decide_eq_true rfl)) ?_
  refine e_move rfl rfl ?_
  refine e_yes rfl rfl rfl ?_
  refine e_move rfl rfl ?_
  refine e_yes rfl rfl rfl ?_
  refine e_move rfl rfl ?_
  refine e_yes rfl rfl rfl ?_
  refine e_eq rfl rfl rfl ?_
  refine e_as (congrArg Value.bool (decide_eq_true rfl)) ?_
  refine e_pickT rfl rfl rfl rfl ?_
  refine e_assign rfl rfl ?_
  refine e_nil ?_
  refine e_ret ?_
  exact ⟨_, rfl, .tmp rfl⟩

set_option maxHeartbeats 400000 in
theorem chachaStreams_over (k : Nat → Nat) (c : Nat) (nn : Nat → Nat) (v : Value) (l : List Nat) (hv : Shows G 1 v l.length (l.map by8)) (hb : ∀ b ∈ l, b < 256) (hk : ∀ j, j < 32 → k j < 256) (hn : ∀ j, j < 12 → nn j < 256) (hc : c < 4294967296) (hl : l.length ≤ 1600) (ho : 64 * (4294967296 - c) < l.length) (hS2 : ∀ (G : Mem) (k : Nat → Nat) (c : Nat) (nn : Nat → Nat) (v : Value) (l : List Nat), Shows G 1 v l.length (l.map by8) → (∀ b ∈ l, b < 256) → (∀ j, j < 32 → k j < 256) → (∀ j, j < 12 → nn j < 256) → c < 4294967296 → l.length ≤ 1600 → 64 * (4294967296 - c) < l.length → Fn Try.prog G 10 #[.agg (arr .u8 32 k), uw c, .agg (arr .u8 12 nn), v] (.tuple #[nilS, ii 11])) : Fn Try.prog G 4 #[.agg (arr .u8 32 k), uw c, .agg (arr .u8 12 nn), v] (.bool true) := by
  refine fn1 (n := 37) Try.func4 rfl rfl (by simp) (argE [.agg (arr .u8 32 k), uw c, .agg (arr .u8 12 nn), v] 0) (argE_ok _) ?_
  refine e_seq ?_
  refine e_plain ?_
  refine e_box 0 rfl rfl fun r1 => ?_
  refine e_box 1 rfl rfl fun r2 => ?_
  refine e_assign rfl rfl ?_
  refine e_nil ?_
  refine e_seq ?_
  refine e_plain ?_
  refine e_loadA (i := 0) und22 rfl siz22 rfl rfl (arr_size _ _ _) rfl ⟨[], trivial⟩ ?_
  refine e_move rfl rfl ?_
  refine e_loadA (i := 1) und24 rfl siz24 rfl rfl (arr_size _ _ _) rfl ⟨[], trivial⟩ ?_
  refine e_move rfl rfl ?_
  refine e_call rfl ent10 (hS2 G k c nn v l hv hb hk hn hc hl ho) rfl rfl ?_
  refine e_move rfl rfl ?_
  refine e_extract rfl rfl rfl ?_
  refine e_extract rfl rfl rfl ?_
  refine e_assign rfl rfl ?_
  refine e_assign rfl rfl ?_
  refine e_nil ?_
  refine e_seq ?_
  refine e_plain ?_
  refine e_loadA (i := 0) und22 rfl siz22 rfl rfl (arr_size _ _ _) rfl ⟨[], trivial⟩ ?_
  refine e_move rfl rfl ?_
  refine e_loadA (i := 1) und24 rfl siz24 rfl rfl (arr_size _ _ _) rfl ⟨[], trivial⟩ ?_
  refine e_move rfl rfl ?_
  refine e_call rfl ent11 (streamed_over k c nn v l hv hc hl ho) rfl rfl ?_
  refine e_move rfl rfl ?_
  refine e_extract rfl rfl rfl ?_
  refine e_extract rfl rfl rfl ?_
  refine e_assign rfl rfl ?_
  refine e_assign rfl rfl ?_
  refine e_nil ?_
  refine e_seq ?_
  refine e_plain ?_
  refine e_move rfl rfl ?_
  refine e_move rfl rfl ?_
  refine e_callV [] rfl rfl ent12 trivial (sameBytes_fn (G := []) nilS nilS [] [] (.inl ⟨rfl, rfl, none, 0, rfl, fun _ => rfl⟩ : Shows [] 1 nilS ([] : List Nat).length (([] : List Nat).map by8)) (.inl ⟨rfl, rfl, none, 0, rfl, fun _ => rfl⟩ : Shows [] 1 nilS ([] : List Nat).length (([] : List Nat).map by8)) (by simp) (by simp)) rfl rfl rfl ?_
  refine e_as (congrArg Value.bool (decide_eq_true rfl)) ?_
  refine e_move rfl rfl ?_
  refine e_yes rfl rfl rfl ?_
  refine e_move rfl rfl ?_
  refine e_yes rfl rfl rfl ?_
  refine e_move rfl rfl ?_
  refine e_yes rfl rfl rfl ?_
  refine e_eq rfl rfl rfl ?_
  refine e_as (congrArg Value.bool (decide_eq_true rfl)) ?_
  refine e_pickT rfl rfl rfl rfl ?_
  refine e_assign rfl rfl ?_
  refine e_nil ?_
  refine e_ret ?_
  exact ⟨_, rfl, .tmp rfl⟩

set_option maxHeartbeats 400000 in
theorem chachaStreams_ok (k : Nat → Nat) (c : Nat) (nn : Nat → Nat) (v : Value) (l : List Nat) (hv : Shows G 1 v l.length (l.map by8)) (hb : ∀ b ∈ l, b < 256) (hk : ∀ j, j < 32 → k j < 256) (hn : ∀ j, j < 12 → nn j < 256) (hc : c < 4294967296) (hl : l.length ≤ 1600) (ho : ¬ 64 * (4294967296 - c) < l.length) (hS3 : ∀ (G : Mem) (k : Nat → Nat) (c : Nat) (nn : Nat → Nat) (v : Value) (l : List Nat), Shows G 1 v l.length (l.map by8) → (∀ b ∈ l, b < 256) → (∀ j, j < 32 → k j < 256) → (∀ j, j < 12 → nn j < 256) → c < 4294967296 → l.length ≤ 1600 → ¬ 64 * (4294967296 - c) < l.length → Fx Try.prog G [] 10 #[.agg (arr .u8 32 k), uw c, .agg (arr .u8 12 nn), v] (fun v l1 nw => l1 = [] ∧ ∃ v', v = .tuple #[v', ii 0] ∧ OwnS 5 1 v' (l.length - 0) ((strl k c nn l 0).map by8) nw)) : Fn Try.prog G 4 #[.agg (arr .u8 32 k), uw c, .agg (arr .u8 12 nn), v] (.bool true) := by
  have hsl : l.length - 0 = (strl k c nn l 0).length := (strl_len k c nn l 0).symm
  refine fn1 (n := 37) Try.func4 rfl rfl (by simp) (argE [.agg (arr .u8 32 k), uw c, .agg (arr .u8 12 nn), v] 0) (argE_ok _) ?_
  refine e_seq ?_
  refine e_plain ?_
  refine e_box 0 rfl rfl fun r1 => ?_
  refine e_box 1 rfl rfl fun r2 => ?_
  refine e_assign rfl rfl ?_
  refine e_nil ?_
  refine e_seq ?_
  refine e_plainR ⟨[], 4⟩ ?_
  refine e_loadA (i := 0) und22 rfl siz22 rfl rfl (arr_size _ _ _) rfl ⟨[], trivial⟩ ?_
  refine e_move rfl rfl ?_
  refine e_loadA (i := 1) und24 rfl siz24 rfl rfl (arr_size _ _ _) rfl ⟨[], trivial⟩ ?_
  refine e_move rfl rfl ?_
  refine e_callN 2 (fun v => .tuple #[v, ii 0]) rfl rfl ent10 seenG (hS3 G k c nn v l hv hb hk hn hc hl ho) (by simp only [maxLen]; omega) (by rw [List.length_map, strl_len, Nat.mul_one]) rfl rfl fun v1_1 oz1_1 ho1_1 => ?_
  refine e_move rfl rfl ?_
  refine e_extract rfl rfl rfl ?_
  refine e_extract rfl rfl rfl ?_
  refine e_assign rfl rfl ?_
  refine e_assign rfl rfl ?_
  refine e_nil ?_
  refine e_seq ?_
  refine e_plainR ⟨[], 4⟩ ?_
  refine e_loadA (i := 0) und22 rfl siz22 rfl rfl (arr_size _ _ _) rfl ⟨[], trivial⟩ ?_
  refine e_move rfl rfl ?_
  refine e_loadA (i := 1) und24 rfl siz24 rfl rfl (arr_size _ _ _) rfl ⟨[], trivial⟩ ?_
  refine e_move rfl rfl ?_
  refine e_callN 3 (fun v => .tuple #[v, ii 0]) rfl rfl ent11 seenG (streamed_ok k c nn v l hv hk hn hc hl ho) (by simp only [maxLen]; omega) (by rw [List.length_map, strl_len, Nat.mul_one]) rfl rfl fun v1_2 oz1_2 ho1_2 => ?_
  refine e_move rfl rfl ?_
  refine e_extract rfl rfl rfl ?_
  refine e_extract rfl rfl rfl ?_
  refine e_assign rfl rfl ?_
  refine e_assign rfl rfl ?_
  refine e_nil ?_
  refine e_seq ?_
  refine e_plain ?_
  refine e_move rfl rfl ?_
  refine e_move rfl rfl ?_
  refine e_callV (oz1_1.toList ++ oz1_2.toList) rfl rfl ent12 (subM_app (subM_opt (i := 2) rfl) (subM_opt (i := 3) rfl)) (sameBytes_fn _ _ (strl k c nn l 0) (strl k c nn l 0) ((hsl ▸ ho1_1.shows).mono (fun x h => List.mem_append_left _ h)) ((hsl ▸ ho1_2.shows).mono (fun x h => List.mem_append_right _ h)) (strl_lt k c nn l 0) (strl_lt k c nn l 0)) rfl rfl rfl ?_
  refine e_as (congrArg Value.bool (decide_eq_true rfl)) ?_
  refine e_move rfl rfl ?_
  refine e_yes rfl rfl rfl ?_
  refine e_move rfl rfl ?_
  refine e_yes rfl rfl rfl ?_
  refine e_move rfl rfl ?_
  refine e_yes rfl rfl rfl ?_
  refine e_eq rfl rfl rfl ?_
  refine e_as (congrArg Value.bool (decide_eq_true rfl)) ?_
  refine e_pickT rfl rfl rfl rfl ?_
  refine e_assign rfl rfl ?_
  refine e_nil ?_
  refine e_ret ?_
  exact ⟨_, rfl, .tmp rfl⟩

end Go.Proofs.Ytmhhemhjjpdioaa
