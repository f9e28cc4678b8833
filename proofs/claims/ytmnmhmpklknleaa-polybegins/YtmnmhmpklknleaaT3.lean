/-
  Walks, written by a program of ours off the loaded functions.
-/
import Derived.Test.YtmnmhmpklknleaaT2
namespace Go.Proofs.Ytmnmhmpklknleaa
open Go Go.RowKit


theorem ent20 : enters Try.prog 20 = true := by kernel_rfl
theorem ent33 : enters Try.prog 33 = true := by kernel_rfl

variable {G : Mem}

set_option maxHeartbeats 2000000 in
theorem dtake_fn (r p : Nat → Nat) (A : Nat) (h : Nat → Nat) (n : Nat) (hr0 : r 0 < 18446744073709551616) (hr1 : r 1 < 18446744073709551616) (hR : k3 r < 2 ^ 124) (hA : A < 2 ^ 130) (hn : n ≤ 16) (hh : ∀ j, j < 16 → h j < 256) (hz : ∀ j, n ≤ j → j < 16 → h j = 0) : Fn Try.prog G 28 #[PV r p (wd A) h n] (PV r p (wd (pst (k3 r) A ((List.range n).map h))) (fun _ => 0) ((0 : Nat) : Int)) := by
  obtain ⟨V, hV⟩ : ∃ V, V = vb h 16 := ⟨_, rfl⟩
  obtain ⟨B, hB⟩ : ∃ B, B = leN ((List.range n).map h ++ [1]) := ⟨_, rfl⟩
  have hB2 : B < 2 * 2 ^ 128 := by rw [hB]; exact bl_small (fun b hb => by obtain ⟨j, hj, rfl⟩ := List.mem_map.1 hb; exact hh j (by have := List.mem_range.1 hj; omega)) (by simp; exact hn)
  have hps : (A + B) * k3 r % QQ = pst (k3 r) A ((List.range n).map h) := by unfold pst; rw [← hB, Nat.mod_mul_mod]
  refine fn1 (n := 37) Try.func28 rfl rfl (by simp) (argE [PV r p (wd A) h n] 0) (argE_ok _) ?_
  refine e_seq ?_
  refine e_plain ?_
  refine e_box 0 rfl rfl fun r1 => ?_
  refine e_alloc 1 zer28 rfl fun r2 => ?_
  refine e_nil ?_
  refine e_seq ?_
  refine e_plain ?_
  refine e_fld (7) und28 rfl siz26 rfl rfl rfl ?_
  refine e_ldC (i := 0) 3 und26 rfl siz26 rfl rfl rfl (by decide) rfl ⟨[], trivial⟩ ?_
  refine e_call rfl ent20 (dpair_fn h hh) rfl rfl ?_
  refine e_as (congrArg f2 hV.symm) ?_
  refine e_alloc 2 zer24 rfl fun r3 => ?_
  refine e_storeA (i := 2) siz24 rfl rfl (arr_size _ _ _) arr_one rfl (arr_sz _ _ _ _ _) (.inl rfl) ?_
  refine e_nil ?_
  refine e_seq ?_
  refine e_plain ?_
  refine e_index0 (j := 0) und24 siz23 rfl rfl (by omega) rfl ?_
  refine e_load1 (i := 2) und23 rfl rfl rfl (arr_get (by omega)) rfl ⟨[], trivial⟩ ?_
  refine e_index0 (j := 1) und24 siz23 rfl rfl (by omega) rfl ?_
  refine e_load1 (i := 2) und23 rfl rfl rfl (arr_get (by omega)) rfl ⟨[], trivial⟩ ?_
  refine e_build (arr .u64 3 (upd (wd V) 2 0)) zer61 und61 siz23 rfl rfl rfl ?_
  refine e_alloc 3 zer61 rfl fun r4 => ?_
  refine e_storeA (i := 3) siz61 rfl rfl (arr_size _ _ _) arr_one rfl (arr_sz _ _ _ _ _) (.inl rfl) ?_
  refine e_nil ?_
  refine e_seq ?_
  refine e_draw mixed (by kernel_rfl) ?_
  refine e_fld (23) und28 rfl siz3 rfl rfl rfl ?_
  refine e_ldV1 (i := 0) 4 und3 rfl rfl rfl rfl (by decide) rfl ⟨[], trivial⟩ ?_
  refine e_quo_i (q := 8) rfl rfl rfl (by omega) (by omega) ?_
  refine e_index0 und61 siz23 rfl rfl (by omega) rfl ?_
  refine e_load1 (i := 3) und23 rfl rfl rfl (arr_get (by omega)) rfl ⟨[], trivial⟩ ?_
  refine e_fld (23) und28 rfl siz3 rfl rfl rfl ?_
  refine e_ldV1 (i := 0) 4 und3 rfl rfl rfl rfl (by decide) rfl ⟨[], trivial⟩ ?_
  refine e_rem_i (q := 8) rfl rfl rfl (by omega) ?_
  refine e_mul_i (q := 8) rfl rfl rfl (by omega) ?_
  refine e_shl_u (p := 1) rfl rfl rfl (by omega) ?_
  refine e_or_u rfl rfl rfl  ?_
  refine e_index0 und61 siz23 rfl rfl (by omega) rfl ?_
  refine e_storeN (i := 3) siz23 rfl rfl rfl (by omega) (.inl rfl) ?_
  refine e_nil ?_
  refine e_seq ?_
  refine e_draw mixed (by kernel_rfl) ?_
  refine e_fld (4) und28 rfl siz25 rfl rfl rfl ?_
  refine e_ldC (i := 0) 2 und25 rfl siz25 rfl rfl rfl (by decide) rfl ⟨[], trivial⟩ ?_
  refine e_loadA (i := 3) und61 rfl siz61 rfl rfl (arr_size _ _ _) rfl ⟨[], trivial⟩ ?_
  refine e_as (show _ = f3 B from (f3_of (held_one hh hz hn hV hB)).symm) ?_
  refine e_call rfl ent34 (dplus_fn _ _) rfl rfl ?_
  refine e_fld (0) und28 rfl siz24 rfl rfl rfl ?_
  refine e_ldC (i := 0) 0 und24 rfl siz24 rfl rfl rfl (by decide) rfl ⟨[], trivial⟩ ?_
  refine e_as (f2_of (wd_k3 hr0 hr1)).symm ?_
  refine e_call rfl ent33 (dproduct_fn (A + B) (k3 r) (by omega) hR) rfl rfl ?_
  refine e_as (congrArg f3 hps) ?_
  refine e_fld (4) und28 rfl siz25 rfl rfl rfl ?_
  refine e_stC (i := 0) 2 siz25 rfl rfl rfl rfl (by decide) (.inl rfl) ?_
  refine e_nil ?_
  refine e_seq ?_
  refine e_plain ?_
  refine e_build0 zer26 und26 sis5 rfl ?_
  refine e_fld (7) und28 rfl siz26 rfl rfl rfl ?_
  refine e_stC (i := 0) 3 siz26 rfl rfl rfl rfl (by decide) (.inl rfl) ?_
  refine e_fld (23) und28 rfl siz3 rfl rfl rfl ?_
  refine e_stV (i := 0) 4 siz3 rfl rfl rfl rfl rfl (by decide) (.inl rfl) ?_
  refine e_nil ?_
  refine e_seq ?_
  refine e_plain ?_
  refine e_loadA (i := 0) und28 rfl siz28 rfl rfl (arrv_size _ _) rfl ⟨[], trivial⟩ ?_
  refine e_as (show _ = PV r p (wd (pst (k3 r) A ((List.range n).map h))) (fun _ => 0) ((0 : Nat) : Int) from rfl) ?_
  refine e_storeA (i := 1) siz28 rfl rfl (arrv_size _ _) (cells_one ⟨fun _ => rfl, fun _ => rfl, fun _ => rfl, fun _ => rfl, fun _ => rfl, trivial⟩) rfl cells_sz (.inl rfl) ?_
  refine e_nil ?_
  refine e_ret ?_
  exact ⟨_, rfl, .cell (i := 1) rfl rfl und28 rfl siz28 (arrv_size _ _)⟩

set_option maxHeartbeats 2000000 in
theorem dpad_fn (r p : Nat → Nat) (A : Nat) (h : Nat → Nat) (n : Int) (hp0 : p 0 < 18446744073709551616) (hp1 : p 1 < 18446744073709551616) : Fn Try.prog G 30 #[PV r p (wd A) h n] (.agg (arr .u8 16 (tgn (k3 (wd A)) (k3 p)))) := by
  obtain ⟨X, hX⟩ : ∃ X, X = A + k3 p := ⟨_, rfl⟩
  have hE : ∀ s : Nat → Nat, (∀ j, j < 16 → s j = bt X j) → arr .u8 16 s = arr .u8 16 (tgn (k3 (wd A)) (k3 p)) := fun s h => arr_congr fun j hj => (h j hj).trans (by rw [hX]; exact bt_tgn A (k3 p) hj)
  refine fn1 (n := 32) Try.func30 rfl rfl (by simp) (argE [PV r p (wd A) h n] 0) (argE_ok _) ?_
  refine e_seq ?_
  refine e_plain ?_
  refine e_box 0 rfl rfl fun r1 => ?_
  refine e_alloc 1 zer26 rfl fun r2 => ?_
  refine e_nil ?_
  refine e_seq ?_
  refine e_plain ?_
  refine e_fld (4) und28 rfl siz25 rfl rfl rfl ?_
  refine e_ldC (i := 0) 2 und25 rfl siz25 rfl rfl rfl (by decide) rfl ⟨[], trivial⟩ ?_
  refine e_fld (2) und28 rfl siz24 rfl rfl rfl ?_
  refine e_at (2) (j := 0) und24 siz23 rfl rfl (by omega) (by omega) rfl ?_
  refine e_ldI (i := 0) 1 (0) und23 rfl rfl rfl rfl rfl (by decide) (by decide) rfl ⟨[], trivial⟩ ?_
  refine e_fld (2) und28 rfl siz24 rfl rfl rfl ?_
  refine e_at (3) (j := 1) und24 siz23 rfl rfl (by omega) (by omega) rfl ?_
  refine e_ldI (i := 0) 1 (1) und23 rfl rfl rfl rfl rfl (by decide) (by decide) rfl ⟨[], trivial⟩ ?_
  refine e_build (arr .u64 3 (upd p 2 0)) zer61 und61 siz23 rfl rfl rfl ?_
  refine e_as (show _ = f3 (k3 p) from (f3_of (k3_three hp0 hp1)).symm) ?_
  refine e_call rfl ent34 (dplus_fn _ _) rfl rfl ?_
  refine e_as (congrArg f3 hX.symm) ?_
  refine e_alloc 2 zer61 rfl fun r3 => ?_
  refine e_storeA (i := 2) siz61 rfl rfl (arr_size _ _ _) arr_one rfl (arr_sz _ _ _ _ _) (.inl rfl) ?_
  refine e_nil ?_
  refine e_seq ?_
  refine e_plain ?_
  refine e_alloc 3 zer26 rfl fun r4 => ?_
  refine e_nil ?_
  refine e_seq ?_
  refine e_seq ?_
  refine e_plain ?_
  refine e_move rfl rfl ?_
  refine e_nil ?_
  refine e_block ?_
  refine e_loopK [(2, _), (3, _), (4, _)] [(0, _), (1, _), (2, _)] (fun kk E m => ∃ (i : Nat) (s : Nat → Nat), kk = 16 - i ∧ E = [(16, ii i)] ∧ m = [(3, some ⟨r4, arr .u8 16 s, 26⟩)] ∧ (i ≤ 16) ∧ (∀ j, j < i → s j = bt X j)) [(16, ii 0)] [(3, some ⟨r4, arr .u8 16 (fun _ => 0), 26⟩)] (16 - 0) ⟨rfl, rfl, rfl, rfl, trivial⟩ ⟨rfl, rfl, rfl, rfl, trivial⟩ ⟨0, fun _ => 0, rfl, rfl, rfl, by omega, fun j hj => absurd hj (Nat.not_lt_zero j)⟩ ?_
  rintro kk E m ⟨i, s, rfl, rfl, rfl, hf0_0, hf0_1⟩
  simp only [catE, catL]
  refine e_seq ?_
  refine e_plain ?_
  refine e_lt rfl rfl rfl ?_
  refine e_nil ?_
  refine e_seq ?_
  refine e_cond rfl ?_ ?_
  · intro hc0
    have hc0 : i < 16 := by have := of_decide_eq_true hc0; omega
    refine e_skip ?_
    refine e_seq ?_
    refine e_block ?_
    refine e_seq ?_
    refine e_plain ?_
    refine e_move rfl rfl ?_
    refine e_assign rfl rfl ?_
    refine e_nil ?_
    refine e_plain ?_
    refine e_move rfl rfl ?_
    refine e_move rfl rfl ?_
    refine e_quo_i (q := 8) rfl rfl rfl (by omega) (by omega) ?_
    refine e_index0 und61 siz23 rfl rfl (by omega) rfl ?_
    refine e_load1 (i := 2) und23 rfl rfl rfl (arr_get (by omega)) rfl ⟨[], trivial⟩ ?_
    refine e_move rfl rfl ?_
    refine e_rem_i (q := 8) rfl rfl rfl (by omega) ?_
    refine e_mul_i (q := 8) rfl rfl rfl (by omega) ?_
    refine e_shr_u rfl rfl rfl (by omega) ?_
    refine e_conv_u8 und23 und5 rfl rfl rfl ?_
    refine e_index0 und26 siz5 rfl rfl (by omega) rfl ?_
    refine e_storeN (i := 3) siz5 rfl rfl rfl (by omega) (.inl rfl) ?_
    refine e_nil ?_
    refine e_plain ?_
    refine e_add_i (q := 1) rfl rfl rfl (by omega) ?_
    refine e_move rfl rfl ?_
    refine e_nil ?_
    refine ⟨_, [(16, ii (i + 1))], [(3, some ⟨r4, arr .u8 16 (upd s i _), 26⟩)], ?_, ⟨rfl, rfl, rfl, rfl, trivial⟩, ⟨rfl, rfl, rfl, rfl, trivial⟩, i + 1, upd s i _, rfl, rfl, rfl, by omega, upd_lt hf0_1 (bt_word X i)⟩
    omega
  · intro hc0
    have hc0 := of_decide_eq_false hc0
    have hz0 : i = 16 := by omega
    subst hz0
    refine e_exit ?_
    refine e_seq ?_
    refine e_plain ?_
    refine e_loadA (i := 3) und26 rfl siz26 rfl rfl (arr_size _ _ _) rfl ⟨[], trivial⟩ ?_
    refine e_storeA (i := 1) siz26 rfl rfl (arr_size _ _ _) arr_one rfl (arr_sz _ _ _ _ _) (.inl rfl) ?_
    refine e_nil ?_
    refine e_ret ?_
    rw [← hE _ hf0_1]
    exact ⟨_, rfl, .cell (i := 1) rfl rfl und26 rfl siz26 (arr_size _ _ _)⟩

end Go.Proofs.Ytmnmhmpklknleaa
