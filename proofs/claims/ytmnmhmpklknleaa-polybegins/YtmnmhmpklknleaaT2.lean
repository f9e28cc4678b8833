/-
  Walks, written by a program of ours off the loaded functions.
-/
import Derived.Test.YtmnmhmpklknleaaT1
namespace Go.Proofs.Ytmnmhmpklknleaa
open Go Go.RowKit


theorem ent34 : enters Try.prog 34 = true := by kernel_rfl
theorem ent37 : enters Try.prog 37 = true := by kernel_rfl
theorem ent39 : enters Try.prog 39 = true := by kernel_rfl

variable {G : Mem}

set_option maxHeartbeats 2000000 in
theorem dproduct_fn (a b : Nat) (ha : a < 2 ^ 131) (hb : b < 2 ^ 124) : Fn Try.prog G 33 #[f3 a, f2 b] (f3 (a * b % QQ)) := by
  obtain ⟨x, hx⟩ : ∃ x, x = a * b := ⟨_, rfl⟩
  have hx2 : x < 2 ^ 255 := by rw [hx]; exact Nat.lt_of_le_of_lt (Nat.mul_le_mul (Nat.le_of_lt_succ ha) (Nat.le_of_lt hb)) (by decide)
  obtain ⟨L, hL⟩ : ∃ L, L = x % 2 ^ 130 := ⟨_, rfl⟩
  obtain ⟨H, hH⟩ : ∃ H, H = x / 2 ^ 130 := ⟨_, rfl⟩
  have hL2 : L < 2 ^ 130 := by rw [hL]; exact Nat.mod_lt _ (by decide)
  have hH2 : H < 2 ^ 125 := by omega
  have hQQ := QQ_eq
  obtain ⟨S, hS⟩ : ∃ S, S = L + 5 * H := ⟨_, rfl⟩
  have hS2 : S < 2 ^ 192 := by omega
  obtain ⟨t, ht⟩ : ∃ t, t = (if S < QQ then 1 else 0) := ⟨_, rfl⟩
  have ht1 : t ≤ 1 := by rw [ht]; split <;> omega
  refine fn1 (n := 67) Try.func33 rfl rfl (by simp) (argE [f3 a, f2 b] 0) (argE_ok _) ?_
  refine e_seq ?_
  refine e_plain ?_
  refine e_box 0 rfl rfl fun r1 => ?_
  refine e_box 1 rfl rfl fun r2 => ?_
  refine e_alloc 2 zer61 rfl fun r3 => ?_
  refine e_nil ?_
  refine e_seq ?_
  refine e_plain ?_
  refine e_loadA (i := 0) und61 rfl siz61 rfl rfl (arr_size _ _ _) rfl ⟨[], trivial⟩ ?_
  refine e_loadA (i := 1) und24 rfl siz24 rfl rfl (arr_size _ _ _) rfl ⟨[], trivial⟩ ?_
  refine e_call rfl ent37 (dwide_fn a b (by omega) (by omega)) rfl rfl ?_
  refine e_as (congrArg (fun z => Value.agg (arr .u64 5 (wd z))) hx.symm) ?_
  refine e_alloc 3 zer53 rfl fun r4 => ?_
  refine e_storeA (i := 3) siz53 rfl rfl (arr_size _ _ _) arr_one rfl (arr_sz _ _ _ _ _) (.inl rfl) ?_
  refine e_nil ?_
  refine e_seq ?_
  refine e_plain ?_
  refine e_index0 (j := 2) und53 siz23 rfl rfl (by omega) rfl ?_
  refine e_load1 (i := 3) und23 rfl rfl rfl (arr_get (by omega)) rfl ⟨[], trivial⟩ ?_
  refine e_shr_u (s := 2) rfl rfl rfl (by omega) ?_
  refine e_index0 (j := 3) und53 siz23 rfl rfl (by omega) rfl ?_
  refine e_load1 (i := 3) und23 rfl rfl rfl (arr_get (by omega)) rfl ⟨[], trivial⟩ ?_
  refine e_shl_u (s := 62) rfl rfl rfl (by omega) ?_
  refine e_or_u rfl rfl rfl  ?_
  refine e_as (congrArg u ((hi0 x).trans (by rw [← hH]))) ?_
  refine e_index0 (j := 3) und53 siz23 rfl rfl (by omega) rfl ?_
  refine e_load1 (i := 3) und23 rfl rfl rfl (arr_get (by omega)) rfl ⟨[], trivial⟩ ?_
  refine e_shr_u (s := 2) rfl rfl rfl (by omega) ?_
  refine e_as (congrArg u ((hi1 hx2).trans (by rw [← hH]))) ?_
  refine e_build (arr .u64 2 (wd H)) zer24 und24 siz23 rfl rfl rfl ?_
  refine e_alloc 4 zer24 rfl fun r5 => ?_
  refine e_storeA (i := 4) siz24 rfl rfl (arr_size _ _ _) arr_one rfl (arr_sz _ _ _ _ _) (.inl rfl) ?_
  refine e_nil ?_
  refine e_seq ?_
  refine e_plain ?_
  refine e_index0 (j := 0) und53 siz23 rfl rfl (by omega) rfl ?_
  refine e_load1 (i := 3) und23 rfl rfl rfl (arr_get (by omega)) rfl ⟨[], trivial⟩ ?_
  refine e_as (congrArg u ((lo0 x).trans (by rw [← hL]))) ?_
  refine e_index0 (j := 1) und53 siz23 rfl rfl (by omega) rfl ?_
  refine e_load1 (i := 3) und23 rfl rfl rfl (arr_get (by omega)) rfl ⟨[], trivial⟩ ?_
  refine e_as (congrArg u ((lo1 x).trans (by rw [← hL]))) ?_
  refine e_index0 (j := 2) und53 siz23 rfl rfl (by omega) rfl ?_
  refine e_load1 (i := 3) und23 rfl rfl rfl (arr_get (by omega)) rfl ⟨[], trivial⟩ ?_
  refine e_and_u (q := 3) rfl rfl rfl  ?_
  refine e_as (congrArg u ((lo2 x).trans (by rw [← hL]))) ?_
  refine e_build (arr .u64 3 (wd L)) zer61 und61 siz23 rfl rfl rfl ?_
  refine e_alloc 5 zer61 rfl fun r6 => ?_
  refine e_storeA (i := 5) siz61 rfl rfl (arr_size _ _ _) arr_one rfl (arr_sz _ _ _ _ _) (.inl rfl) ?_
  refine e_nil ?_
  refine e_seq ?_
  refine e_plain ?_
  refine e_assign rfl rfl ?_
  refine e_nil ?_
  refine e_seq ?_
  refine e_seq ?_
  refine e_plain ?_
  refine e_move rfl rfl ?_
  refine e_nil ?_
  refine e_block ?_
  refine e_loopK [(4, _), (6, _), (7, _)] [(0, _), (1, _), (2, _), (3, _), (4, _)] (fun kk E m => ∃ (k : Nat) (s : Nat → Nat), kk = 2 - k ∧ E = [(8, u (qS L H k / 2 ^ (64 * k))), (34, ii k)] ∧ m = [(5, some ⟨r6, arr .u64 3 s, 61⟩)] ∧ (k ≤ 2) ∧ (∀ t, t < k → s t = wd (qS L H k) t) ∧ (∀ t, k ≤ t → s t = wd L t)) [(8, u (qS L H 0 / 2 ^ (64 * 0))), (34, ii 0)] [(5, some ⟨r6, arr .u64 3 (wd L), 61⟩)] (2 - 0) ⟨by rw [qS_zero]; rfl, rfl, rfl, rfl, rfl, trivial⟩ ⟨rfl, rfl, rfl, rfl, rfl, rfl, trivial⟩ ⟨0, wd L, rfl, rfl, rfl, by omega, fun t ht => absurd ht (Nat.not_lt_zero t), fun t _ => rfl⟩ ?_
  rintro kk E m ⟨k, s, rfl, rfl, rfl, hf0_0, hf0_1, hf0_2⟩
  simp only [catE, catL]
  have hw1 := wd_lt H k
  have hw2 := wd_lt L k
  have hov := qS_lt L H k
  have hsk := hf0_2 k (Nat.le_refl k)
  refine e_seq ?_
  refine e_plain ?_
  refine e_lt rfl rfl rfl ?_
  refine e_nil ?_
  refine e_seq ?_
  refine e_cond rfl ?_ ?_
  · intro hc0
    have hc0 : k < 2 := by have := of_decide_eq_true hc0; omega
    refine e_skip ?_
    refine e_seq ?_
    refine e_block ?_
    refine e_seq ?_
    refine e_plain ?_
    refine e_move rfl rfl ?_
    refine e_assign rfl rfl ?_
    refine e_nil ?_
    refine e_draw mixed (by kernel_rfl) ?_
    refine e_move rfl rfl ?_
    refine e_move rfl rfl ?_
    refine e_index0 und24 siz23 rfl rfl (by omega) rfl ?_
    refine e_load1 (i := 4) und23 rfl rfl rfl (arr_get (by omega)) rfl ⟨[], trivial⟩ ?_
    refine e_move rfl rfl ?_
    refine e_index0 und61 siz23 rfl rfl (by omega) rfl ?_
    refine e_load1 (i := 5) und23 rfl rfl rfl (arr_get (by omega)) rfl ⟨[], trivial⟩ ?_
    refine e_move rfl rfl ?_
    refine e_call rfl ent38 (dstep_fn _ 5 _ _ (by omega) (by omega) (by omega) (by omega)) rfl rfl ?_
    refine e_move rfl rfl ?_
    refine e_extract rfl rfl rfl ?_
    refine e_extract rfl rfl rfl ?_
    refine e_index0 und61 siz23 rfl rfl (by omega) rfl ?_
    refine e_storeN (i := 5) siz23 rfl rfl rfl (by omega) (.inl rfl) ?_
    refine e_assign rfl rfl ?_
    refine e_nil ?_
    refine e_plain ?_
    refine e_add_i (q := 1) rfl rfl rfl (by omega) ?_
    refine e_move rfl rfl ?_
    refine e_nil ?_
    refine ⟨_, [(8, u (qS L H (k + 1) / 2 ^ (64 * (k + 1)))), (34, ii (k + 1))], [(5, some ⟨r6, arr .u64 3 (upd s k _), 61⟩)], ?_, ⟨by rw [← qS_hi, ← hsk]; rfl, rfl, rfl, rfl, rfl, trivial⟩, ⟨rfl, rfl, rfl, rfl, rfl, rfl, trivial⟩, k + 1, upd s k _, rfl, rfl, rfl, by omega, qS_low (hf0_2 k (Nat.le_refl k)) hf0_1, upd_ge hf0_2⟩
    omega
  · intro hc0
    have hc0 := of_decide_eq_false hc0
    have hz0 : k = 2 := by omega
    subst hz0
    refine e_exit ?_
    refine e_seq ?_
    refine e_plain ?_
    refine e_index0 (j := 2) und61 siz23 rfl rfl (by omega) rfl ?_
    refine e_load1 (i := 5) und23 rfl rfl rfl (arr_get (by omega)) rfl ⟨[], trivial⟩ ?_
    refine e_move rfl rfl ?_
    refine e_add_u rfl rfl rfl  ?_
    refine e_as (congrArg u (Nat.mod_eq_of_lt (show s 2 + qS L H 2 / 2 ^ (64 * 2) < 18446744073709551616 by have := hf0_2 2 (Nat.le_refl 2); have h4 : wd L 2 < 4 := wd2_lt hL2; omega))) ?_
    refine e_index0 (j := 2) und61 siz23 rfl rfl (by omega) rfl ?_
    refine e_storeN (i := 5) siz23 rfl rfl rfl (by omega) (.inl rfl) ?_
    refine e_nil ?_
    refine e_seq ?_
    refine e_draw mixed (by kernel_rfl) ?_
    refine e_loadA (i := 5) und61 rfl siz61 rfl rfl (arr_size _ _ _) rfl ⟨[], trivial⟩ ?_
    refine e_as (show _ = f3 S by rw [hS]; exact (f3_of (qS_end hL2 hH2 hf0_1 hf0_2)).symm) ?_
    refine e_call rfl ent32 dprime_fn rfl rfl ?_
    refine e_call rfl ent31 (dminus_fn _ _ (by omega) (by omega)) rfl rfl ?_
    refine e_move rfl rfl ?_
    refine e_extract rfl rfl rfl ?_
    refine e_extract rfl rfl rfl ?_
    refine e_as (congrArg u ht.symm) ?_
    refine e_alloc 6 zer61 rfl fun r7 => ?_
    refine e_storeA (i := 6) siz61 rfl rfl (arr_size _ _ _) arr_one rfl (arr_sz _ _ _ _ _) (.inl rfl) ?_
    refine e_assign rfl rfl ?_
    refine e_nil ?_
    refine e_seq ?_
    refine e_draw mixed (by kernel_rfl) ?_
    refine e_loadA (i := 6) und61 rfl siz61 rfl rfl (arr_size _ _ _) rfl ⟨[], trivial⟩ ?_
    refine e_call rfl ent32 dprime_fn rfl rfl ?_
    refine e_move rfl rfl ?_
    refine e_call rfl ent39 (dtimes_fn _ _ (by omega)) rfl rfl ?_
    refine e_call rfl ent34 (dplus_fn _ _) rfl rfl ?_
    refine e_storeA (i := 2) siz61 rfl rfl (arr_size _ _ _) arr_one rfl (arr_sz _ _ _ _ _) (.inl rfl) ?_
    refine e_nil ?_
    refine e_ret ?_
    rw [ht, ← hx, f3_of (prod5_fin (S := S) hx2 (by rw [hS, hL, hH]))]
    exact ⟨_, rfl, .cell (i := 2) rfl rfl und61 rfl siz61 (arr_size _ _ _)⟩

end Go.Proofs.Ytmnmhmpklknleaa
