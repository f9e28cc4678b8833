/-
  Walks, written by a program of ours off the loaded functions.
-/
import Derived.Test.YtmnmhmpklknleaaP8
import Derived.Test.YtmnmhmpklknleaaPol5
import Derived.Test.YtmnmhmpklknleaaEnvB
import Derived.Test.YtmnmhmpklknleaaEnvC
import Derived.Test.YtmnmhmpklknleaaCh4
namespace Go.Proofs.Ytmnmhmpklknleaa
open Go Go.RowKit


theorem added_msg {G : Mem} (f : Nat → Nat) (m : List Nat) (v : Value) (l : List Nat) (hf : ∀ j, j < 32 → f j < 256) (hm : ∀ b ∈ m, b < 256) (hv : Shows G 1 v l.length (l.map by8)) (hlb : ∀ b ∈ l, b < 256) (hlen : l.length + 16 ≤ 9223372036854775807) :
    Fn Try.prog G 14 #[stP f m, v] (.tuple #[stP f (m ++ l), ii 0]) := by
  have hb := bL_lt hf
  have h := added_ok (G := G) (w8 (bL f)) (fun j => w8 (bL f) (j + 2)) (acc0 (k3 (w8 (bL f))) m) (heldF m) (rem16 m).length v l hv hlb (Nat.lt_trans (acc0_lt _ _) QQ_lt) (w8_lt hb 0) (w8_lt hb 1) (by rw [rem16_len]; omega) (fun j _ => heldF_lt hm j) (ok_heldF (okR_begun hf) _ m) hlen
  rw [sS_held, acc0_app, rem16_app] at h
  exact h
theorem ended_msg {G : Mem} (f : Nat → Nat) (m : List Nat) (hf : ∀ j, j < 32 → f j < 256) (hm : ∀ b ∈ m, b < 256) : Fn Try.prog G 16 #[stP f m] (.tuple #[.agg (arr .u8 16 (ptg f m)), ii 0]) := by
  have hb := bL_lt hf
  have hok := ok_heldF (okR_begun hf) (k3 (w8 (bL f))) m
  by_cases h0 : (rem16 m).length = 0
  · have h := ended_zero (G := G) (w8 (bL f)) (fun j => w8 (bL f) (j + 2)) (acc0 (k3 (w8 (bL f))) m) (heldF m) (rem16 m).length (w8_lt hb 0) (w8_lt hb 1) (w8_lt hb 2) (w8_lt hb 3) h0 hok
    unfold stP cP
    rw [show acc0 (k3 (w8 (bL f))) m = accE (k3 (w8 (bL f))) m from (if_pos h0).symm] at h ⊢
    exact h
  · have h := ended_some (G := G) (w8 (bL f)) (fun j => w8 (bL f) (j + 2)) (acc0 (k3 (w8 (bL f))) m) (heldF m) (rem16 m).length (w8_lt hb 0) (w8_lt hb 1) (w8_lt hb 2) (w8_lt hb 3) (Nat.lt_trans (acc0_lt _ _) QQ_lt) (fun j _ => heldF_lt hm j) (by omega) (by rw [rem16_len]; omega) hok
    rw [held_list, show pst (k3 (w8 (bL f))) (acc0 (k3 (w8 (bL f))) m) (rem16 m) = accE (k3 (w8 (bL f))) m from (if_neg h0).symm] at h
    exact h

theorem ent14 : enters Try.prog 14 = true := by kernel_rfl
theorem ent16 : enters Try.prog 16 = true := by kernel_rfl

variable {G : Mem}

set_option maxHeartbeats 2000000 in
theorem tag_fn (f : Nat → Nat) (hf : ∀ j, j < 32 → f j < 256) (l : List Nat) (hb : ∀ b ∈ l, b < 256) (hl : l.length ≤ 140737488351232) : Fn Try.prog G 18 #[.agg (arr .u8 32 f), sv l] (.agg (arr .u8 16 (ptg f l))) := by
  have hl2 : l.length + 16 ≤ 9223372036854775807 := by omega
  refine fn1 (n := 23) Try.func18 rfl rfl (by simp) (argE [.agg (arr .u8 32 f), sv l] 0) (argE_ok _) ?_
  refine e_seq ?_
  refine e_plain ?_
  refine e_box 0 rfl rfl fun r1 => ?_
  refine e_alloc 1 zer26 rfl fun r2 => ?_
  refine e_nil ?_
  refine e_seq ?_
  refine e_plainR ⟨[], 1, [33]⟩ ?_
  refine e_loadA (i := 0) und46 rfl siz46 rfl rfl (arr_size _ _ _) rfl ⟨[], trivial⟩ ?_
  refine e_call rfl ent11 (begun_fn f hf) rfl rfl ?_
  refine e_as (stP_nil f) ?_
  refine e_move rfl rfl ?_
  refine e_conv_own 2 und9 und33 und5 rfl hb (by simp only [maxLen]; omega) rfl rfl fun v1_1 oz1_1 ho1_1 => ?_
  refine e_callV oz1_1.toList rfl rfl ent14 (subM_opt (i := 2) rfl) (added_msg (G := oz1_1.toList) f [] v1_1 l hf (by simp) (own_bytes ho1_1) hb hl2) rfl rfl rfl ?_
  refine e_as (show _ = Value.tuple #[stP f l, ii 0] from rfl) ?_
  refine e_move rfl rfl ?_
  refine e_extract rfl rfl rfl ?_
  refine e_extract rfl rfl rfl ?_
  refine e_alloc 3 zer28 rfl fun r4 => ?_
  refine e_storeA (i := 3) siz28 rfl rfl (arrv_size _ _) (cells_one ⟨fun _ => rfl, fun _ => rfl, fun _ => rfl, fun _ => rfl, fun _ => rfl, trivial⟩) rfl cells_sz (.inl rfl) ?_
  refine e_assign rfl rfl ?_
  refine e_nil ?_
  refine e_seq ?_
  refine e_plain ?_
  refine e_loadA (i := 3) und28 rfl siz28 rfl rfl (arrv_size _ _) rfl ⟨[], trivial⟩ ?_
  refine e_call rfl ent16 (ended_msg f l hf hb) rfl rfl ?_
  refine e_move rfl rfl ?_
  refine e_extract rfl rfl rfl ?_
  refine e_extract rfl rfl rfl ?_
  refine e_alloc 4 zer26 rfl fun r5 => ?_
  refine e_storeA (i := 4) siz26 rfl rfl (arr_size _ _ _) arr_one rfl (arr_sz _ _ _ _ _) (.inl rfl) ?_
  refine e_assign rfl rfl ?_
  refine e_nil ?_
  refine e_seq ?_
  refine e_plain ?_
  refine e_loadA (i := 4) und26 rfl siz26 rfl rfl (arr_size _ _ _) rfl ⟨[], trivial⟩ ?_
  refine e_storeA (i := 1) siz26 rfl rfl (arr_size _ _ _) arr_one rfl (arr_sz _ _ _ _ _) (.inl rfl) ?_
  refine e_nil ?_
  refine e_ret ?_
  exact ⟨_, rfl, .cell (i := 1) rfl rfl und26 rfl siz26 (arr_size _ _ _)⟩

end Go.Proofs.Ytmnmhmpklknleaa
