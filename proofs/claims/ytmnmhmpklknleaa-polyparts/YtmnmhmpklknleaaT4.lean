/-
  Walks, written by a program of ours off the loaded functions.
-/
import Derived.Test.YtmnmhmpklknleaaT3
import Derived.Test.YtmnmhmpklknleaaPol9
import Derived.Test.YtmnmhmpklknleaaCh4
namespace Go.Proofs.Ytmnmhmpklknleaa
open Go Go.RowKit


theorem ent21 : enters Try.prog 21 = true := by kernel_rfl
theorem ent22 : enters Try.prog 22 = true := by kernel_rfl

variable {G : Mem}

set_option maxHeartbeats 2000000 in
theorem dbegin_fn (f : Nat → Nat) (hf : ∀ j, j < 32 → f j < 256) : Fn Try.prog G 9 #[.agg (arr .u8 32 f)] (PV (w8 (bL f)) (fun j => w8 (bL f) (j + 2)) (fun _ => 0) (fun _ => 0) 0) := by
  refine fn1 (n := 17) Try.func9 rfl rfl (by simp) (argE [.agg (arr .u8 32 f)] 0) (argE_ok _) ?_
  refine e_seq ?_
  refine e_plain ?_
  refine e_box 0 rfl rfl fun r1 => ?_
  refine e_alloc 1 zer28 rfl fun r2 => ?_
  refine e_nil ?_
  refine e_seq ?_
  refine e_draw mixed (by kernel_rfl) ?_
  refine e_sliceA 0 16 und46 siz5 rfl rfl rfl rfl ⟨_, rfl⟩ (by omega) (by omega) (by omega) rfl ?_
  refine e_toArr und26 rfl (by omega) rfl ?_
  refine e_loadS (i := 0) und26 rfl siz26 rfl rfl (by omega) rfl ⟨[], trivial⟩ ?_
  refine e_as (congrArg Value.agg (arr_congr (fun j _ => congrArg f (Nat.zero_add j)))) ?_
  refine e_call rfl ent20 (dpair_fn f (fun j hj => hf j (by omega))) rfl rfl ?_
  refine e_sliceA 16 32 und46 siz5 rfl rfl rfl ⟨_, rfl⟩ rfl (by omega) (by omega) (by omega) rfl ?_
  refine e_toArr und26 rfl (by omega) rfl ?_
  refine e_loadS (i := 0) und26 rfl siz26 rfl rfl (by omega) rfl ⟨[], trivial⟩ ?_
  refine e_call rfl ent20 (dpair_fn (fun t => f (16 + t)) (fun j hj => hf _ (by omega))) rfl rfl ?_
  refine e_as (congrArg Value.agg (arr_congr (pad_key hf))) ?_
  refine e_alloc 2 zer24 rfl fun r3 => ?_
  refine e_alloc 3 zer24 rfl fun r4 => ?_
  refine e_storeA (i := 2) siz24 rfl rfl (arr_size _ _ _) arr_one rfl (arr_sz _ _ _ _ _) (.inl rfl) ?_
  refine e_storeA (i := 3) siz24 rfl rfl (arr_size _ _ _) arr_one rfl (arr_sz _ _ _ _ _) (.inl rfl) ?_
  refine e_nil ?_
  refine e_seq ?_
  refine e_draw mixed (by kernel_rfl) ?_
  refine e_loadA (i := 2) und24 rfl siz24 rfl rfl (arr_size _ _ _) rfl ⟨[], trivial⟩ ?_
  refine e_call rfl ent21 (dclamped_fn _) rfl rfl ?_
  refine e_as (congrArg Value.agg (arr_congr (clamp_key hf))) ?_
  refine e_loadA (i := 3) und24 rfl siz24 rfl rfl (arr_size _ _ _) rfl ⟨[], trivial⟩ ?_
  refine e_buildS (cells 24 [pI .u64 2 (w8 (bL f)), pI .u64 2 (fun j => w8 (bL f) (j + 2)), pI .u64 3 (fun _ => 0), pI .u8 16 (fun _ => 0), pV (.int .i64 0)]) zer28 und28 pls28 rfl rfl rfl ?_
  refine e_storeA (i := 1) siz28 rfl rfl (arrv_size _ _) (cells_one ⟨fun _ => rfl, fun _ => rfl, fun _ => rfl, fun _ => rfl, fun _ => rfl, trivial⟩) rfl cells_sz (.inl rfl) ?_
  refine e_nil ?_
  refine e_ret ?_
  exact ⟨_, rfl, .cell (i := 1) rfl rfl und28 rfl siz28 (arrv_size _ _)⟩

set_option maxHeartbeats 4000000 in
theorem dcheck_fn (r p a h : Nat → Nat) (n : Int) (ha0 : a 0 < 18446744073709551616) (ha1 : a 1 < 18446744073709551616) (ha2 : a 2 < 18446744073709551616) (hr0 : r 0 < 18446744073709551616) (hr1 : r 1 < 18446744073709551616) : Fn Try.prog G 10 #[PV r p a h n] (ii (if (okcd r a n && okh n h 16) = true then 0 else 9)) := by
  refine fn1 (n := 39) Try.func10 rfl rfl (by simp) (argE [PV r p a h n] 0) (argE_ok _) ?_
  refine e_seq ?_
  refine e_plain ?_
  refine e_box 0 rfl rfl fun r1 => ?_
  refine e_assign rfl rfl ?_
  refine e_nil ?_
  refine e_seq ?_
  refine e_seq ?_
  rcases dcases (n := n) hr0 hr1 ha0 ha1 ha2 with ⟨hk0, hko⟩ | ⟨hk0, hk1, hko⟩ | ⟨hk0, hk1, hk2, hko⟩ | ⟨hk0, hk1, hk2, hk3, hko⟩ | ⟨hk0, hk1, k, rfl, hk3, hko⟩
  · skip
    refine e_draw mixed (by kernel_rfl) ?_
    refine e_fld (0) und28 rfl siz24 rfl rfl rfl ?_
    refine e_ldC (i := 0) 0 und24 rfl siz24 rfl rfl rfl (by decide) rfl ⟨[], trivial⟩ ?_
    refine e_call rfl ent21 (dclamped_fn _) rfl rfl ?_
    refine e_fld (0) und28 rfl siz24 rfl rfl rfl ?_
    refine e_ldC (i := 0) 0 und24 rfl siz24 rfl rfl rfl (by decide) rfl ⟨[], trivial⟩ ?_
    refine e_neA und24 und23 siz23 eqg24 rfl rfl rfl ?_
    refine e_as (congrArg (fun z => Value.bool (!z)) hk0) ?_
    refine e_move rfl rfl ?_
    refine e_no rfl rfl (by decide) rfl ?_
    refine e_no rfl rfl (by decide) rfl ?_
    refine e_no rfl rfl (by decide) rfl ?_
    refine e_no rfl rfl (by decide) rfl ?_
    refine e_pickT rfl rfl rfl rfl ?_
    refine e_move rfl rfl ?_
    refine e_no rfl rfl (by decide) rfl ?_
    refine e_no rfl rfl (by decide) rfl ?_
    refine e_no rfl rfl (by decide) rfl ?_
    refine e_pickT rfl rfl rfl rfl ?_
    refine e_move rfl rfl ?_
    refine e_no rfl rfl (by decide) rfl ?_
    refine e_no rfl rfl (by decide) rfl ?_
    refine e_no rfl rfl (by decide) rfl ?_
    refine e_pickT rfl rfl rfl rfl ?_
    refine e_nil ?_
    refine e_cond rfl ?_ ?_
    · intro hc0
      have hfin := ok_no (d := okh n h 16) hko
      refine e_seq ?_
      refine e_plain ?_
      refine e_assign rfl rfl ?_
      refine e_nil ?_
      refine e_ret ?_
      first | rw [if_pos hfin] | rw [if_neg hfin]
      exact ⟨_, rfl, .tmp rfl⟩
    · intro hc0
      exact absurd hc0 (by decide)
  · skip
    refine e_draw mixed (by kernel_rfl) ?_
    refine e_fld (0) und28 rfl siz24 rfl rfl rfl ?_
    refine e_ldC (i := 0) 0 und24 rfl siz24 rfl rfl rfl (by decide) rfl ⟨[], trivial⟩ ?_
    refine e_call rfl ent21 (dclamped_fn _) rfl rfl ?_
    refine e_fld (0) und28 rfl siz24 rfl rfl rfl ?_
    refine e_ldC (i := 0) 0 und24 rfl siz24 rfl rfl rfl (by decide) rfl ⟨[], trivial⟩ ?_
    refine e_neA und24 und23 siz23 eqg24 rfl rfl rfl ?_
    refine e_as (congrArg (fun z => Value.bool (!z)) hk0) ?_
    refine e_move rfl rfl ?_
    refine e_yes rfl rfl rfl ?_
    refine e_fld (4) und28 rfl siz25 rfl rfl rfl ?_
    refine e_yes rfl rfl rfl ?_
    refine e_ldC (i := 0) 2 und25 rfl siz25 rfl rfl rfl (by decide) rfl ⟨[], trivial⟩ ?_
    refine e_as (f3_of (w3_words ha0 ha1 ha2)).symm ?_
    refine e_yes rfl rfl rfl ?_
    refine e_call rfl ent22 (dbelow_fn (w3 a) (w3_lt192 ha0 ha1 ha2)) rfl rfl ?_
    refine e_yes rfl rfl rfl ?_
    refine e_not rfl rfl ?_
    refine e_as (congrArg (fun z => Value.bool (!z)) (decide_eq_false hk1)) ?_
    refine e_pickF rfl rfl rfl rfl ?_
    refine e_move rfl rfl ?_
    refine e_no rfl rfl (by decide) rfl ?_
    refine e_no rfl rfl (by decide) rfl ?_
    refine e_no rfl rfl (by decide) rfl ?_
    refine e_pickT rfl rfl rfl rfl ?_
    refine e_move rfl rfl ?_
    refine e_no rfl rfl (by decide) rfl ?_
    refine e_no rfl rfl (by decide) rfl ?_
    refine e_no rfl rfl (by decide) rfl ?_
    refine e_pickT rfl rfl rfl rfl ?_
    refine e_nil ?_
    refine e_cond rfl ?_ ?_
    · intro hc0
      have hfin := ok_no (d := okh n h 16) hko
      refine e_seq ?_
      refine e_plain ?_
      refine e_assign rfl rfl ?_
      refine e_nil ?_
      refine e_ret ?_
      first | rw [if_pos hfin] | rw [if_neg hfin]
      exact ⟨_, rfl, .tmp rfl⟩
    · intro hc0
      exact absurd hc0 (by decide)
  · skip
    refine e_draw mixed (by kernel_rfl) ?_
    refine e_fld (0) und28 rfl siz24 rfl rfl rfl ?_
    refine e_ldC (i := 0) 0 und24 rfl siz24 rfl rfl rfl (by decide) rfl ⟨[], trivial⟩ ?_
    refine e_call rfl ent21 (dclamped_fn _) rfl rfl ?_
    refine e_fld (0) und28 rfl siz24 rfl rfl rfl ?_
    refine e_ldC (i := 0) 0 und24 rfl siz24 rfl rfl rfl (by decide) rfl ⟨[], trivial⟩ ?_
    refine e_neA und24 und23 siz23 eqg24 rfl rfl rfl ?_
    refine e_as (congrArg (fun z => Value.bool (!z)) hk0) ?_
    refine e_move rfl rfl ?_
    refine e_yes rfl rfl rfl ?_
    refine e_fld (4) und28 rfl siz25 rfl rfl rfl ?_
    refine e_yes rfl rfl rfl ?_
    refine e_ldC (i := 0) 2 und25 rfl siz25 rfl rfl rfl (by decide) rfl ⟨[], trivial⟩ ?_
    refine e_as (f3_of (w3_words ha0 ha1 ha2)).symm ?_
    refine e_yes rfl rfl rfl ?_
    refine e_call rfl ent22 (dbelow_fn (w3 a) (w3_lt192 ha0 ha1 ha2)) rfl rfl ?_
    refine e_yes rfl rfl rfl ?_
    refine e_not rfl rfl ?_
    refine e_as (congrArg (fun z => Value.bool (!z)) (decide_eq_true hk1)) ?_
    refine e_pickF rfl rfl rfl rfl ?_
    refine e_move rfl rfl ?_
    refine e_yes rfl rfl rfl ?_
    refine e_fld (23) und28 rfl siz3 rfl rfl rfl ?_
    refine e_yes rfl rfl rfl ?_
    refine e_ldV1 (i := 0) 4 und3 rfl rfl rfl rfl (by decide) rfl ⟨[], trivial⟩ ?_
    refine e_yes rfl rfl rfl ?_
    refine e_lt rfl rfl rfl ?_
    refine e_as (congrArg Value.bool (decide_eq_true (by omega))) ?_
    refine e_pickF rfl rfl rfl rfl ?_
    refine e_move rfl rfl ?_
    refine e_no rfl rfl (by decide) rfl ?_
    refine e_no rfl rfl (by decide) rfl ?_
    refine e_no rfl rfl (by decide) rfl ?_
    refine e_pickT rfl rfl rfl rfl ?_
    refine e_nil ?_
    refine e_cond rfl ?_ ?_
    · intro hc0
      have hfin := ok_no (d := okh n h 16) hko
      refine e_seq ?_
      refine e_plain ?_
      refine e_assign rfl rfl ?_
      refine e_nil ?_
      refine e_ret ?_
      first | rw [if_pos hfin] | rw [if_neg hfin]
      exact ⟨_, rfl, .tmp rfl⟩
    · intro hc0
      exact absurd hc0 (by decide)
  · skip
    refine e_draw mixed (by kernel_rfl) ?_
    refine e_fld (0) und28 rfl siz24 rfl rfl rfl ?_
    refine e_ldC (i := 0) 0 und24 rfl siz24 rfl rfl rfl (by decide) rfl ⟨[], trivial⟩ ?_
    refine e_call rfl ent21 (dclamped_fn _) rfl rfl ?_
    refine e_fld (0) und28 rfl siz24 rfl rfl rfl ?_
    refine e_ldC (i := 0) 0 und24 rfl siz24 rfl rfl rfl (by decide) rfl ⟨[], trivial⟩ ?_
    refine e_neA und24 und23 siz23 eqg24 rfl rfl rfl ?_
    refine e_as (congrArg (fun z => Value.bool (!z)) hk0) ?_
    refine e_move rfl rfl ?_
    refine e_yes rfl rfl rfl ?_
    refine e_fld (4) und28 rfl siz25 rfl rfl rfl ?_
    refine e_yes rfl rfl rfl ?_
    refine e_ldC (i := 0) 2 und25 rfl siz25 rfl rfl rfl (by decide) rfl ⟨[], trivial⟩ ?_
    refine e_as (f3_of (w3_words ha0 ha1 ha2)).symm ?_
    refine e_yes rfl rfl rfl ?_
    refine e_call rfl ent22 (dbelow_fn (w3 a) (w3_lt192 ha0 ha1 ha2)) rfl rfl ?_
    refine e_yes rfl rfl rfl ?_
    refine e_not rfl rfl ?_
    refine e_as (congrArg (fun z => Value.bool (!z)) (decide_eq_true hk1)) ?_
    refine e_pickF rfl rfl rfl rfl ?_
    refine e_move rfl rfl ?_
    refine e_yes rfl rfl rfl ?_
    refine e_fld (23) und28 rfl siz3 rfl rfl rfl ?_
    refine e_yes rfl rfl rfl ?_
    refine e_ldV1 (i := 0) 4 und3 rfl rfl rfl rfl (by decide) rfl ⟨[], trivial⟩ ?_
    refine e_yes rfl rfl rfl ?_
    refine e_lt rfl rfl rfl ?_
    refine e_as (congrArg Value.bool (decide_eq_false (by omega))) ?_
    refine e_pickF rfl rfl rfl rfl ?_
    refine e_move rfl rfl ?_
    refine e_yes rfl rfl rfl ?_
    refine e_fld (23) und28 rfl siz3 rfl rfl rfl ?_
    refine e_yes rfl rfl rfl ?_
    refine e_ldV1 (i := 0) 4 und3 rfl rfl rfl rfl (by decide) rfl ⟨[], trivial⟩ ?_
    refine e_yes rfl rfl rfl ?_
    refine e_ge rfl rfl rfl ?_
    refine e_as (congrArg Value.bool (decide_eq_true (by omega))) ?_
    refine e_pickF rfl rfl rfl rfl ?_
    refine e_nil ?_
    refine e_cond rfl ?_ ?_
    · intro hc0
      have hfin := ok_no (d := okh n h 16) hko
      refine e_seq ?_
      refine e_plain ?_
      refine e_assign rfl rfl ?_
      refine e_nil ?_
      refine e_ret ?_
      first | rw [if_pos hfin] | rw [if_neg hfin]
      exact ⟨_, rfl, .tmp rfl⟩
    · intro hc0
      exact absurd hc0 (by decide)
  · skip
    refine e_draw mixed (by kernel_rfl) ?_
    refine e_fld (0) und28 rfl siz24 rfl rfl rfl ?_
    refine e_ldC (i := 0) 0 und24 rfl siz24 rfl rfl rfl (by decide) rfl ⟨[], trivial⟩ ?_
    refine e_call rfl ent21 (dclamped_fn _) rfl rfl ?_
    refine e_fld (0) und28 rfl siz24 rfl rfl rfl ?_
    refine e_ldC (i := 0) 0 und24 rfl siz24 rfl rfl rfl (by decide) rfl ⟨[], trivial⟩ ?_
    refine e_neA und24 und23 siz23 eqg24 rfl rfl rfl ?_
    refine e_as (congrArg (fun z => Value.bool (!z)) hk0) ?_
    refine e_move rfl rfl ?_
    refine e_yes rfl rfl rfl ?_
    refine e_fld (4) und28 rfl siz25 rfl rfl rfl ?_
    refine e_yes rfl rfl rfl ?_
    refine e_ldC (i := 0) 2 und25 rfl siz25 rfl rfl rfl (by decide) rfl ⟨[], trivial⟩ ?_
    refine e_as (f3_of (w3_words ha0 ha1 ha2)).symm ?_
    refine e_yes rfl rfl rfl ?_
    refine e_call rfl ent22 (dbelow_fn (w3 a) (w3_lt192 ha0 ha1 ha2)) rfl rfl ?_
    refine e_yes rfl rfl rfl ?_
    refine e_not rfl rfl ?_
    refine e_as (congrArg (fun z => Value.bool (!z)) (decide_eq_true hk1)) ?_
    refine e_pickF rfl rfl rfl rfl ?_
    refine e_move rfl rfl ?_
    refine e_yes rfl rfl rfl ?_
    refine e_fld (23) und28 rfl siz3 rfl rfl rfl ?_
    refine e_yes rfl rfl rfl ?_
    refine e_ldV1 (i := 0) 4 und3 rfl rfl rfl rfl (by decide) rfl ⟨[], trivial⟩ ?_
    refine e_yes rfl rfl rfl ?_
    refine e_lt rfl rfl rfl ?_
    refine e_as (congrArg Value.bool (decide_eq_false (by omega))) ?_
    refine e_pickF rfl rfl rfl rfl ?_
    refine e_move rfl rfl ?_
    refine e_yes rfl rfl rfl ?_
    refine e_fld (23) und28 rfl siz3 rfl rfl rfl ?_
    refine e_yes rfl rfl rfl ?_
    refine e_ldV1 (i := 0) 4 und3 rfl rfl rfl rfl (by decide) rfl ⟨[], trivial⟩ ?_
    refine e_yes rfl rfl rfl ?_
    refine e_ge rfl rfl rfl ?_
    refine e_as (congrArg Value.bool (decide_eq_false (by omega))) ?_
    refine e_pickF rfl rfl rfl rfl ?_
    refine e_nil ?_
    refine e_cond rfl ?_ ?_
    · intro hc0
      exact absurd hc0 (by decide)
    · intro hc0
      refine e_skip ?_
      refine e_seq ?_
      refine e_seq ?_
      refine e_plain ?_
      refine e_fld (7) und28 rfl siz26 rfl rfl rfl ?_
      refine e_fld (23) und28 rfl siz3 rfl rfl rfl ?_
      refine e_ldV1 (i := 0) 4 und3 rfl rfl rfl rfl (by decide) rfl ⟨[], trivial⟩ ?_
      refine e_sliceA k 16 und26 siz5 rfl rfl rfl ⟨_, rfl⟩ rfl (by omega) (by omega) (by omega) rfl ?_
      refine e_lenSl und33 rfl rfl rfl ?_
      refine e_move rfl rfl ?_
      refine e_nil ?_
      refine e_block ?_
      refine e_loopK [(30, _), (31, _)] [(0, _)] (fun kk E m => ∃ (i : Nat), kk = 16 - k - i ∧ E = [(32, ii i)] ∧ m = [] ∧ (i ≤ 16 - k) ∧ (∀ j, j < i → h (k + j) = 0)) [(32, ii 0)] [] (16 - k - 0) ⟨rfl, rfl, rfl, trivial⟩ ⟨rfl, trivial⟩ ⟨0, rfl, rfl, rfl, by omega, fun j hj => absurd hj (Nat.not_lt_zero j)⟩ ?_
      rintro kk E m ⟨i, rfl, rfl, rfl, hf0_0, hf0_1⟩
      simp only [catE, catL]
      refine e_seq ?_
      refine e_plain ?_
      refine e_lt rfl rfl rfl ?_
      refine e_nil ?_
      refine e_seq ?_
      refine e_cond rfl ?_ ?_
      · intro hc1
        have hc1 : i < 16 - k := by have := of_decide_eq_true hc1; omega
        refine e_skip ?_
        refine e_seq ?_
        refine e_block ?_
        refine e_seq ?_
        refine e_plain ?_
        refine e_atSl (7 + (k + i)) und33 siz5 rfl rfl (by omega) (by omega) rfl ?_
        refine e_ldI (i := 0) 3 (k + i) und5 rfl rfl rfl rfl (by first | rfl | omega) (by omega) (by omega) rfl ⟨[], trivial⟩ ?_
        refine e_assign rfl rfl ?_
        refine e_nil ?_
        refine e_seq ?_
        refine e_plain ?_
        refine e_move rfl rfl ?_
        refine e_ne rfl rfl rfl ?_
        refine e_nil ?_
        refine e_cond rfl ?_ ?_
        · intro hc2
          have hc2 := of_decide_eq_true hc2
          have hfin : ¬ (okcd r a (k : Int) && okh (k : Int) h 16) = true := by rw [okh_not hc1 (fun e => hc2 (by rw [e]; rfl))]; simp
          refine e_seq ?_
          refine e_plain ?_
          refine e_assign rfl rfl ?_
          refine e_nil ?_
          refine e_ret ?_
          first | rw [if_pos hfin] | rw [if_neg hfin]
          exact ⟨_, rfl, .tmp rfl⟩
        · intro hc2
          have hc2 := of_decide_eq_false hc2
          have hcz : h (k + i) = 0 := by omega
          refine e_skip ?_
          refine e_plain ?_
          refine e_add_i (q := 1) rfl rfl rfl (by omega) ?_
          refine e_move rfl rfl ?_
          refine e_nil ?_
          refine ⟨_, [(32, ii (i + 1))], [], ?_, ⟨rfl, rfl, rfl, trivial⟩, ⟨rfl, trivial⟩, i + 1, rfl, rfl, rfl, by omega, fun j hj => by by_cases e : j = i; exact e ▸ hcz; exact hf0_1 j (by omega)⟩
          omega
      · intro hc1
        have hc1 := of_decide_eq_false hc1
        have hz0 : i = 16 - k := by omega
        have hfin : (okcd r a (k : Int) && okh (k : Int) h 16) = true := by rw [hko, okh_all (by rw [← hz0]; exact hf0_1)]; rfl
        refine e_exit ?_
        refine e_seq ?_
        refine e_plain ?_
        refine e_assign rfl rfl ?_
        refine e_nil ?_
        refine e_ret ?_
        first | rw [if_pos hfin] | rw [if_neg hfin]
        exact ⟨_, rfl, .tmp rfl⟩

end Go.Proofs.Ytmnmhmpklknleaa
