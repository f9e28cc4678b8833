/-
  Walks, written by a program of ours off the loaded functions.
-/
import Derived.Test.YtmnmhmpklknleaaP1
namespace Go.Proofs.Ytmnmhmpklknleaa
open Go Go.RowKit



variable {G : Mem}

set_option maxHeartbeats 400000 in
theorem carried_fn (f : Nat → Nat) (hf : ∀ j, j < 5 → f j < 1152921504606846976) : Fn Try.prog G 26 #[.agg (arr .u64 5 f)] (p5 (v26 f 5 % QQ)) := by
  refine fn1 (n := 65) Try.func26 rfl rfl (by simp) (argE [.agg (arr .u64 5 f)] 0) (argE_ok _) ?_
  refine e_seq ?_
  refine e_plain ?_
  refine e_box 0 rfl rfl fun r1 => ?_
  refine e_alloc 1 zer54 rfl fun r2 => ?_
  refine e_nil ?_
  refine e_seq ?_
  refine e_seq ?_
  refine e_plain ?_
  refine e_move rfl rfl ?_
  refine e_nil ?_
  refine e_block ?_
  refine e_loop (fun kk E m => ∃ (k : Nat) (s : Nat → Nat), kk = 3 - k ∧ E = [(1, ptr r1), (2, ptr r2), (7, ii k)] ∧ m = [(0, some ⟨r1, arr .u64 5 s, 54⟩), (1, some ⟨r2, arr .u64 5 (fun _ => 0), 54⟩)] ∧ (k ≤ 3) ∧ (∀ j, j < 5 → s j < 1152921504606846976) ∧ (v26 s 5 < bnd5 k) ∧ (v26 s 5 % QQ = v26 f 5 % QQ) ∧ (k = 3 → ∀ j, j < 5 → s j < 67108864)) [(1, ptr r1), (2, ptr r2), (7, ii 0)] [(0, some ⟨r1, arr .u64 5 f, 54⟩), (1, some ⟨r2, arr .u64 5 (fun _ => 0), 54⟩)] (3 - 0) ⟨rfl, rfl, rfl, trivial⟩ ⟨rfl, rfl, trivial⟩ ⟨0, f, rfl, rfl, rfl, by omega, hf, v26_bound f hf, rfl, fun h => absurd h (by decide)⟩ ?_
  rintro kk E m ⟨k, s, rfl, rfl, rfl, hf0_0, hf0_1, hf0_2, hf0_3, hf0_4⟩
  refine e_seq ?_
  refine e_plain ?_
  refine e_lt rfl rfl rfl ?_
  refine e_nil ?_
  refine e_seq ?_
  refine e_cond rfl ?_ ?_
  · intro hc0
    have hc0 := of_decide_eq_true hc0
    refine e_skip ?_
    refine e_seq ?_
    refine e_block ?_
    refine e_seq ?_
    refine e_plain ?_
    refine e_assign rfl rfl ?_
    refine e_nil ?_
    refine e_seq ?_
    refine e_seq ?_
    refine e_plain ?_
    refine e_move rfl rfl ?_
    refine e_nil ?_
    refine e_block ?_
    refine e_loop (fun kk E m => ∃ (i : Nat) (s2 : Nat → Nat) (c : Nat), kk = 5 - i ∧ E = [(1, ptr r1), (2, ptr r2), (7, ii k), (3, u c), (9, ii i)] ∧ m = [(0, some ⟨r1, arr .u64 5 s2, 54⟩), (1, some ⟨r2, arr .u64 5 (fun _ => 0), 54⟩)] ∧ (i ≤ 5) ∧ (v26 s2 i + c * 2 ^ (26 * i) = v26 s i) ∧ (∀ j, i ≤ j → s2 j = s j) ∧ (∀ j, j < i → s2 j < 67108864) ∧ (c < 34359738368)) [(1, ptr r1), (2, ptr r2), (7, ii k), (3, u 0), (9, ii 0)] [(0, some ⟨r1, arr .u64 5 s, 54⟩), (1, some ⟨r2, arr .u64 5 (fun _ => 0), 54⟩)] (5 - 0) ⟨rfl, rfl, rfl, rfl, rfl, trivial⟩ ⟨rfl, rfl, trivial⟩ ⟨0, s, 0, rfl, rfl, rfl, by omega, by rw [Nat.zero_mul]; rfl, fun j _ => rfl, fun j hj => absurd hj (Nat.not_lt_zero j), by decide⟩ ?_
    rintro kk E m ⟨i, s2, c, rfl, rfl, rfl, hf1_0, hf1_1, hf1_2, hf1_3, hf1_4⟩
    have hsi : i < 5 → s2 i < 1152921504606846976 := fun h => by rw [hf1_2 i (Nat.le_refl i)]; exact hf0_1 i h
    refine e_seq ?_
    refine e_plain ?_
    refine e_lt rfl rfl rfl ?_
    refine e_nil ?_
    refine e_seq ?_
    refine e_cond rfl ?_ ?_
    · intro hc1
      have hc1 := of_decide_eq_true hc1
      have hsi2 := hsi (by omega)
      refine e_skip ?_
      refine e_seq ?_
      refine e_block ?_
      refine e_seq ?_
      refine e_plain ?_
      refine e_move rfl rfl ?_
      refine e_assign rfl rfl ?_
      refine e_nil ?_
      refine e_seq ?_
      refine e_plain ?_
      refine e_move rfl rfl ?_
      refine e_move rfl rfl ?_
      refine e_index0 und54 siz23 rfl rfl (by omega) rfl ?_
      refine e_load1 (i := 0) und23 rfl rfl rfl (arr_get (by omega)) rfl ⟨[], trivial⟩ ?_
      refine e_add_u rfl rfl rfl  ?_
      refine e_as (congrArg u (Nat.mod_eq_of_lt (show c + s2 i < 18446744073709551616 by omega))) ?_
      refine e_assign rfl rfl ?_
      refine e_nil ?_
      refine e_plain ?_
      refine e_move rfl rfl ?_
      refine e_move rfl rfl ?_
      refine e_and_u (q := 67108863) rfl rfl rfl  ?_
      refine e_as (congrArg u (m26 _)) ?_
      refine e_move rfl rfl ?_
      refine e_shr_u (s := 26) rfl rfl rfl (by omega) ?_
      refine e_as (show _ = u ((c + s2 i) / 67108864) from rfl) ?_
      refine e_index0 und54 siz23 rfl rfl (by omega) rfl ?_
      refine e_storeN (i := 0) siz23 rfl rfl rfl (by omega) (.inl rfl) ?_
      refine e_assign rfl rfl ?_
      refine e_nil ?_
      refine e_plain ?_
      refine e_add_i (q := 1) rfl rfl rfl (by omega) ?_
      refine e_move rfl rfl ?_
      refine e_nil ?_
      refine ⟨_, [(1, ptr r1), (2, ptr r2), (7, ii k), (3, u ((c + s2 i) / 67108864)), (9, ii (i + 1))], [(0, some ⟨r1, arr .u64 5 (upd s2 i _), 54⟩), (1, some ⟨r2, arr .u64 5 (fun _ => 0), 54⟩)], ?_, ⟨rfl, rfl, rfl, rfl, rfl, trivial⟩, ⟨rfl, rfl, trivial⟩, i + 1, upd s2 i _, (c + s2 i) / 67108864, rfl, rfl, rfl, by omega, carry26 hf1_1 (hf1_2 i (Nat.le_refl i)), upd_ge hf1_2, mod_below hf1_3, by omega⟩
      omega
    · intro hc1
      have hc1 := of_decide_eq_false hc1
      have hi5 : i = 5 := by omega
      subst hi5
      have hs20 := hf1_3 0 (by decide)
      refine e_exit ?_
      refine e_plain ?_
      refine e_index0 (j := 0) und54 siz23 rfl rfl (by omega) rfl ?_
      refine e_load1 (i := 0) und23 rfl rfl rfl (arr_get (by omega)) rfl ⟨[], trivial⟩ ?_
      refine e_move rfl rfl ?_
      refine e_mul_u (p := 5) rfl rfl rfl  ?_
      refine e_as (congrArg u (Nat.mod_eq_of_lt (show 5 * c < 18446744073709551616 by omega))) ?_
      refine e_add_u rfl rfl rfl  ?_
      refine e_as (congrArg u (Nat.mod_eq_of_lt (show s2 0 + 5 * c < 18446744073709551616 by omega))) ?_
      refine e_index0 (j := 0) und54 siz23 rfl rfl (by omega) rfl ?_
      refine e_storeN (i := 0) siz23 rfl rfl rfl (by omega) (.inl rfl) ?_
      refine e_nil ?_
      refine e_plain ?_
      refine e_add_i (q := 1) rfl rfl rfl (by omega) ?_
      refine e_move rfl rfl ?_
      refine e_nil ?_
      refine ⟨_, [(1, ptr r1), (2, ptr r2), (7, ii (k + 1))], [(0, some ⟨r1, arr .u64 5 (upd s2 0 _), 54⟩), (1, some ⟨r2, arr .u64 5 (fun _ => 0), 54⟩)], ?_, ⟨rfl, rfl, rfl, trivial⟩, ⟨rfl, rfl, trivial⟩, k + 1, upd s2 0 _, rfl, rfl, rfl, by omega, rnd_small hf1_3 hf1_4, by rw [rnd_next5 hf1_1 hf1_3]; exact bnd5_next _ _ hf0_2, by rw [rnd_next5 hf1_1 hf1_3, round5]; exact hf0_3, rnd_last hf1_1 hf1_3 hf0_2⟩
      omega
  · intro hc0
    have hc0 := of_decide_eq_false hc0
    have hk3 : k = 3 := by omega
    subst hk3
    have hs5 := hf0_4 rfl
    have hs0 := hs5 0 (by decide)
    have hT : v26 s 5 < 2 ^ 130 := hf0_2
    refine e_exit ?_
    refine e_seq ?_
    refine e_plain ?_
    refine e_loadA (i := 0) und54 rfl siz54 rfl rfl (arr_size _ _ _) rfl ⟨[], trivial⟩ ?_
    refine e_alloc 2 zer54 rfl fun r3 => ?_
    refine e_storeA (i := 2) siz54 rfl rfl (arr_size _ _ _) arr_one rfl (arr_sz _ _ _ _ _) (.inl rfl) ?_
    refine e_nil ?_
    refine e_seq ?_
    refine e_plain ?_
    refine e_index0 (j := 0) und54 siz23 rfl rfl (by omega) rfl ?_
    refine e_load1 (i := 2) und23 rfl rfl rfl (arr_get (by omega)) rfl ⟨[], trivial⟩ ?_
    refine e_add_u (q := 5) rfl rfl rfl  ?_
    refine e_as (congrArg u (Nat.mod_eq_of_lt (show s 0 + 5 < 18446744073709551616 by omega))) ?_
    refine e_index0 (j := 0) und54 siz23 rfl rfl (by omega) rfl ?_
    refine e_storeN (i := 2) siz23 rfl rfl rfl (by omega) (.inl rfl) ?_
    refine e_nil ?_
    refine e_seq ?_
    refine e_seq ?_
    refine e_plain ?_
    refine e_move rfl rfl ?_
    refine e_nil ?_
    refine e_block ?_
    refine e_loop (fun kk E m => ∃ (n : Nat) (q : Nat → Nat), kk = 4 - n ∧ E = [(1, ptr r1), (2, ptr r2), (5, ptr r3), (36, ii n)] ∧ m = [(0, some ⟨r1, arr .u64 5 s, 54⟩), (1, some ⟨r2, arr .u64 5 (fun _ => 0), 54⟩), (2, some ⟨r3, arr .u64 5 q, 54⟩)] ∧ (n ≤ 4) ∧ (v26 q 5 = v26 s 5 + 5) ∧ (∀ j, j < n → q j < 67108864) ∧ (∀ j, n < j → j < 5 → q j < 67108864) ∧ (q n < 67108869)) [(1, ptr r1), (2, ptr r2), (5, ptr r3), (36, ii 0)] [(0, some ⟨r1, arr .u64 5 s, 54⟩), (1, some ⟨r2, arr .u64 5 (fun _ => 0), 54⟩), (2, some ⟨r3, arr .u64 5 (upd s 0 _), 54⟩)] (4 - 0) ⟨rfl, rfl, rfl, rfl, trivial⟩ ⟨rfl, rfl, rfl, trivial⟩ ⟨0, upd s 0 _, rfl, rfl, rfl, by omega, q_start, fun j hj => absurd hj (Nat.not_lt_zero j), fun j h h5 => by rw [upd_off (by omega)]; exact hs5 j h5, by rw [upd_on]; have := hs5 0 (by decide); omega⟩ ?_
    rintro kk E m ⟨n, q, rfl, rfl, rfl, hf2_0, hf2_1, hf2_2, hf2_3, hf2_4⟩
    refine e_seq ?_
    refine e_plain ?_
    refine e_lt rfl rfl rfl ?_
    refine e_nil ?_
    refine e_seq ?_
    refine e_cond rfl ?_ ?_
    · intro hc2
      have hc2 := of_decide_eq_true hc2
      have hq1 := hf2_3 (n + 1) (by omega) (by omega)
      refine e_skip ?_
      refine e_seq ?_
      refine e_block ?_
      refine e_seq ?_
      refine e_plain ?_
      refine e_move rfl rfl ?_
      refine e_assign rfl rfl ?_
      refine e_nil ?_
      refine e_seq ?_
      refine e_draw mixed (by kernel_rfl) ?_
      refine e_move rfl rfl ?_
      refine e_add_i (q := 1) rfl rfl rfl (by omega) ?_
      refine e_index0 und54 siz23 rfl rfl (by omega) rfl ?_
      refine e_load1 (i := 2) und23 rfl rfl rfl (arr_get (by omega)) rfl ⟨[], trivial⟩ ?_
      refine e_move rfl rfl ?_
      refine e_index0 und54 siz23 rfl rfl (by omega) rfl ?_
      refine e_load1 (i := 2) und23 rfl rfl rfl (arr_get (by omega)) rfl ⟨[], trivial⟩ ?_
      refine e_shr_u (s := 26) rfl rfl rfl (by omega) ?_
      refine e_as (show _ = u (q n / 67108864) from rfl) ?_
      refine e_add_u rfl rfl rfl  ?_
      refine e_as (congrArg u (Nat.mod_eq_of_lt (show q (n + 1) + q n / 67108864 < 18446744073709551616 by omega))) ?_
      refine e_index0 und54 siz23 rfl rfl (by omega) rfl ?_
      refine e_storeN (i := 2) siz23 rfl rfl rfl (by omega) (.inl rfl) ?_
      refine e_nil ?_
      refine e_plain ?_
      refine e_move rfl rfl ?_
      refine e_index0 und54 siz23 rfl rfl (by omega) rfl ?_
      refine e_load1 (i := 2) und23 rfl rfl rfl (arr_get (by omega)) rfl ⟨[], trivial⟩ ?_
      refine e_as (congrArg u (upd_off (by omega))) ?_
      refine e_and_u (q := 67108863) rfl rfl rfl  ?_
      refine e_as (congrArg u (m26 _)) ?_
      refine e_index0 und54 siz23 rfl rfl (by omega) rfl ?_
      refine e_storeN (i := 2) siz23 rfl rfl rfl (by omega) (.inl rfl) ?_
      refine e_nil ?_
      refine e_plain ?_
      refine e_add_i (q := 1) rfl rfl rfl (by omega) ?_
      refine e_move rfl rfl ?_
      refine e_nil ?_
      refine ⟨_, [(1, ptr r1), (2, ptr r2), (5, ptr r3), (36, ii (n + 1))], [(0, some ⟨r1, arr .u64 5 s, 54⟩), (1, some ⟨r2, arr .u64 5 (fun _ => 0), 54⟩), (2, some ⟨r3, arr .u64 5 (upd (upd q (n + 1) _) n _), 54⟩)], ?_, ⟨rfl, rfl, rfl, rfl, trivial⟩, ⟨rfl, rfl, rfl, trivial⟩, n + 1, upd (upd q (n + 1) _) n _, rfl, rfl, rfl, by omega, (q_step (by omega)).trans hf2_1, q_low hf2_2, q_high hf2_3, q_here (by omega) hf2_3 hf2_4⟩
      omega
    · intro hc2
      have hc2 := of_decide_eq_false hc2
      have hn4 : n = 4 := by omega
      subst hn4
      refine e_exit ?_
      refine e_seq ?_
      refine e_seq ?_
      refine e_plain ?_
      refine e_index0 (j := 4) und54 siz23 rfl rfl (by omega) rfl ?_
      refine e_load1 (i := 2) und23 rfl rfl rfl (arr_get (by omega)) rfl ⟨[], trivial⟩ ?_
      refine e_shr_u (s := 26) rfl rfl rfl (by omega) ?_
      refine e_gt rfl rfl rfl ?_
      refine e_nil ?_
      refine e_cond rfl ?_ ?_
      · intro hc3
        have hc3 := of_decide_eq_true hc3
        have hge : QQ ≤ v26 s 5 := (top5 hf2_1 hf2_2 hT).1.1 (by omega)
        refine e_seq ?_
        refine e_plain ?_
        refine e_index0 (j := 4) und54 siz23 rfl rfl (by omega) rfl ?_
        refine e_load1 (i := 2) und23 rfl rfl rfl (arr_get (by omega)) rfl ⟨[], trivial⟩ ?_
        refine e_and_u (q := 67108863) rfl rfl rfl  ?_
        refine e_as (congrArg u (m26 _)) ?_
        refine e_index0 (j := 4) und54 siz23 rfl rfl (by omega) rfl ?_
        refine e_storeN (i := 2) siz23 rfl rfl rfl (by omega) (.inl rfl) ?_
        refine e_nil ?_
        refine e_seq ?_
        refine e_plain ?_
        refine e_loadA (i := 2) und54 rfl siz54 rfl rfl (arr_size _ _ _) rfl ⟨[], trivial⟩ ?_
        refine e_as (p5_of (mod_below hf2_2) (((top5 hf2_1 hf2_2 hT).2 hge).trans hf0_3)) ?_
        refine e_storeA (i := 1) siz54 rfl rfl (arr_size _ _ _) arr_one rfl (arr_sz _ _ _ _ _) (.inl rfl) ?_
        refine e_nil ?_
        refine e_ret ?_
        exact ⟨_, rfl, .cell (i := 1) rfl rfl und54 rfl siz54 (arr_size _ _ _)⟩
      · intro hc3
        have hc3 := of_decide_eq_false hc3
        have hlt : v26 s 5 < QQ := Nat.lt_of_not_le fun h => hc3 (by have := (top5 hf2_1 hf2_2 hT).1.2 h; omega)
        refine e_skip ?_
        refine e_seq ?_
        refine e_plain ?_
        refine e_loadA (i := 0) und54 rfl siz54 rfl rfl (arr_size _ _ _) rfl ⟨[], trivial⟩ ?_
        refine e_as (p5_of hs5 ((Nat.mod_eq_of_lt hlt).symm.trans hf0_3)) ?_
        refine e_storeA (i := 1) siz54 rfl rfl (arr_size _ _ _) arr_one rfl (arr_sz _ _ _ _ _) (.inl rfl) ?_
        refine e_nil ?_
        refine e_ret ?_
        exact ⟨_, rfl, .cell (i := 1) rfl rfl und54 rfl siz54 (arr_size _ _ _)⟩

end Go.Proofs.Ytmnmhmpklknleaa
