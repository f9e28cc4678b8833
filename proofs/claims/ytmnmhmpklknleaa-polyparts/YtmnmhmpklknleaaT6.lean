/-
  Walks, written by a program of ours off the loaded functions.
-/
import Derived.Test.YtmnmhmpklknleaaT5
namespace Go.Proofs.Ytmnmhmpklknleaa
open Go Go.RowKit


theorem dbegin_msg {G : Mem} (f : Nat → Nat) (hf : ∀ j, j < 32 → f j < 256) : Fn Try.prog G 9 #[.agg (arr .u8 32 f)] (stP f []) := by
  rw [← stP_nil f]; exact dbegin_fn f hf
theorem dcheck_msg {G : Mem} (f : Nat → Nat) (m : List Nat) (hf : ∀ j, j < 32 → f j < 256) : Fn Try.prog G 10 #[stP f m] (ii 0) := by
  have hb := bL_lt hf
  have hok := ok_heldF (okR_begun hf) (k3 (w8 (bL f))) m
  have h := dcheck_fn (G := G) (w8 (bL f)) (fun j => w8 (bL f) (j + 2)) (wd (acc0 (k3 (w8 (bL f))) m)) (heldF m) (rem16 m).length (wd_lt _ 0) (wd_lt _ 1) (wd_lt _ 2) (w8_lt hb 0) (w8_lt hb 1)
  rw [if_pos hok] at h
  exact h
theorem dcheck_none {G : Mem} : Fn Try.prog G 10 #[PV (fun _ => 0) (fun _ => 0) (fun _ => 0) (fun _ => 0) 16] (ii 9) := by
  have h := dcheck_fn (G := G) (fun _ => 0) (fun _ => 0) (fun _ => 0) (fun _ => 0) 16 (by decide) (by decide) (by decide) (by decide) (by decide)
  rw [if_neg (by decide +kernel)] at h
  exact h
theorem heldF_zero (m : List Nat) : ∀ j, (rem16 m).length ≤ j → j < 16 → heldF m j = 0 := fun j h1 _ => by
  unfold heldF
  rw [List.getD_eq_getElem?_getD, List.getElem?_eq_none h1]; rfl
theorem dadded_msg {G : Mem} (f : Nat → Nat) (m : List Nat) (v : Value) (l : List Nat) (hf : ∀ j, j < 32 → f j < 256) (hm : ∀ b ∈ m, b < 256) (hv : Shows G 1 v l.length (l.map by8)) (hlb : ∀ b ∈ l, b < 256) (hlen : l.length + 16 ≤ 9223372036854775807) :
    Fn Try.prog G 13 #[stP f m, v] (.tuple #[stP f (m ++ l), ii 0]) := by
  have hb := bL_lt hf
  have h := dadd_ok (G := G) (w8 (bL f)) (fun j => w8 (bL f) (j + 2)) (acc0 (k3 (w8 (bL f))) m) (heldF m) (rem16 m).length v l hv hlb (Nat.lt_trans (acc0_lt _ _) QQ_lt) (w8_lt hb 0) (w8_lt hb 1) (k3_small (w8_lt hb 0) (w8_lt hb 1) (okR_begun hf)) (by rw [rem16_len]; omega) (fun j _ => heldF_lt hm j) (heldF_zero m) (ok_heldF (okR_begun hf) _ m) hlen
  rw [sS_held, acc0_app, rem16_app] at h
  exact h
theorem dended_msg {G : Mem} (f : Nat → Nat) (m : List Nat) (hf : ∀ j, j < 32 → f j < 256) (hm : ∀ b ∈ m, b < 256) : Fn Try.prog G 15 #[stP f m] (.tuple #[.agg (arr .u8 16 (ptg f m)), ii 0]) := by
  have hb := bL_lt hf
  have hok := ok_heldF (okR_begun hf) (k3 (w8 (bL f))) m
  by_cases h0 : (rem16 m).length = 0
  · have h := dend_zero (G := G) (w8 (bL f)) (fun j => w8 (bL f) (j + 2)) (acc0 (k3 (w8 (bL f))) m) (heldF m) (rem16 m).length (w8_lt hb 0) (w8_lt hb 1) (w8_lt hb 2) (w8_lt hb 3) h0 hok
    unfold stP cP
    rw [show acc0 (k3 (w8 (bL f))) m = accE (k3 (w8 (bL f))) m from (if_pos h0).symm] at h ⊢
    exact h
  · have h := dend_some (G := G) (w8 (bL f)) (fun j => w8 (bL f) (j + 2)) (acc0 (k3 (w8 (bL f))) m) (heldF m) (rem16 m).length (w8_lt hb 0) (w8_lt hb 1) (w8_lt hb 2) (w8_lt hb 3) (k3_small (w8_lt hb 0) (w8_lt hb 1) (okR_begun hf)) (Nat.lt_trans (acc0_lt _ _) QQ_lt) (fun j _ => heldF_lt hm j) (heldF_zero m) (by omega) (by rw [rem16_len]; omega) hok
    rw [held_list, show pst (k3 (w8 (bL f))) (acc0 (k3 (w8 (bL f))) m) (rem16 m) = accE (k3 (w8 (bL f))) m from (if_neg h0).symm] at h
    exact h

theorem ent9 : enters Try.prog 9 = true := by kernel_rfl
theorem ent13 : enters Try.prog 13 = true := by kernel_rfl
theorem ent15 : enters Try.prog 15 = true := by kernel_rfl

variable {G : Mem}

set_option maxHeartbeats 2000000 in
theorem dtag_fn (f : Nat → Nat) (v : Value) (l : List Nat) (hf : ∀ j, j < 32 → f j < 256) (hb : ∀ b ∈ l, b < 256) (hl : l.length ≤ 140737488351232) (hv : Shows G 1 v l.length (l.map by8)) : Fn Try.prog G 17 #[.agg (arr .u8 32 f), v] (.agg (arr .u8 16 (ptg f l))) := by
  have hl2 : l.length + 16 ≤ 9223372036854775807 := by omega
  refine fn1 (n := 22) Try.func17 rfl rfl (by simp) (argE [.agg (arr .u8 32 f), v] 0) (argE_ok _) ?_
  refine e_seq ?_
  refine e_plain ?_
  refine e_box 0 rfl rfl fun r1 => ?_
  refine e_alloc 1 zer26 rfl fun r2 => ?_
  refine e_nil ?_
  refine e_seq ?_
  refine e_plain ?_
  refine e_loadA (i := 0) und46 rfl siz46 rfl rfl (arr_size _ _ _) rfl ⟨[], trivial⟩ ?_
  refine e_call rfl ent9 (dbegin_msg f hf) rfl rfl ?_
  refine e_move rfl rfl ?_
  refine e_call rfl ent13 (dadded_msg f [] v l hf (by simp) hv hb hl2) rfl rfl ?_
  refine e_as (show _ = Value.tuple #[stP f l, ii 0] from rfl) ?_
  refine e_move rfl rfl ?_
  refine e_extract rfl rfl rfl ?_
  refine e_extract rfl rfl rfl ?_
  refine e_alloc 2 zer28 rfl fun r3 => ?_
  refine e_storeA (i := 2) siz28 rfl rfl (arrv_size _ _) (cells_one ⟨fun _ => rfl, fun _ => rfl, fun _ => rfl, fun _ => rfl, fun _ => rfl, trivial⟩) rfl cells_sz (.inl rfl) ?_
  refine e_assign rfl rfl ?_
  refine e_nil ?_
  refine e_seq ?_
  refine e_plain ?_
  refine e_loadA (i := 2) und28 rfl siz28 rfl rfl (arrv_size _ _) rfl ⟨[], trivial⟩ ?_
  refine e_call rfl ent15 (dended_msg f l hf hb) rfl rfl ?_
  refine e_move rfl rfl ?_
  refine e_extract rfl rfl rfl ?_
  refine e_extract rfl rfl rfl ?_
  refine e_alloc 3 zer26 rfl fun r4 => ?_
  refine e_storeA (i := 3) siz26 rfl rfl (arr_size _ _ _) arr_one rfl (arr_sz _ _ _ _ _) (.inl rfl) ?_
  refine e_assign rfl rfl ?_
  refine e_nil ?_
  refine e_seq ?_
  refine e_plain ?_
  refine e_loadA (i := 3) und26 rfl siz26 rfl rfl (arr_size _ _ _) rfl ⟨[], trivial⟩ ?_
  refine e_storeA (i := 1) siz26 rfl rfl (arr_size _ _ _) arr_one rfl (arr_sz _ _ _ _ _) (.inl rfl) ?_
  refine e_nil ?_
  refine e_ret ?_
  exact ⟨_, rfl, .cell (i := 1) rfl rfl und26 rfl siz26 (arr_size _ _ _)⟩

end Go.Proofs.Ytmnmhmpklknleaa
