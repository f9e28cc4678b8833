/-
  Walks, written by a program of ours off the loaded functions.
-/
import Derived.Test.YtmnmhmpklknleaaT4
namespace Go.Proofs.Ytmnmhmpklknleaa
open Go Go.RowKit


theorem ent10 : enters Try.prog 10 = true := by kernel_rfl
theorem ent28 : enters Try.prog 28 = true := by kernel_rfl
theorem ent30 : enters Try.prog 30 = true := by kernel_rfl

variable {G : Mem}

set_option maxHeartbeats 400000 in
theorem dadd_bad (r p a h : Nat → Nat) (n : Int) (v : Value) (ha0 : a 0 < 18446744073709551616) (ha1 : a 1 < 18446744073709551616) (ha2 : a 2 < 18446744073709551616) (hr0 : r 0 < 18446744073709551616) (hr1 : r 1 < 18446744073709551616) (hok : ¬ (okcd r a n && okh n h 16) = true) : Fn Try.prog G 13 #[PV r p a h n, v] (.tuple #[PV (fun _ => 0) (fun _ => 0) (fun _ => 0) (fun _ => 0) 0, ii 9]) := by
  refine fn2 (n := 37) Try.func13 rfl rfl (by simp) (argE [PV r p a h n, v] 0) (argE_ok _) ?_
  refine e_seq ?_
  refine e_plain ?_
  refine e_box 0 rfl rfl fun r1 => ?_
  refine e_alloc 1 zer28 rfl fun r2 => ?_
  refine e_assign rfl rfl ?_
  refine e_nil ?_
  refine e_seq ?_
  refine e_seq ?_
  refine e_plain ?_
  refine e_loadA (i := 0) und28 rfl siz28 rfl rfl (arrv_size _ _) rfl ⟨[], trivial⟩ ?_
  refine e_call rfl ent10 (dcheck_fn r p a h n ha0 ha1 ha2 hr0 hr1) rfl rfl ?_
  refine e_as (congrArg ii (if_neg hok)) ?_
  refine e_assign rfl rfl ?_
  refine e_nil ?_
  refine e_seq ?_
  refine e_plain ?_
  refine e_move rfl rfl ?_
  refine e_ne rfl rfl rfl ?_
  refine e_nil ?_
  refine e_cond rfl ?_ ?_
  · intro hc0
    refine e_seq ?_
    refine e_plain ?_
    refine e_buildS _ zer28 und28 pls28 rfl rfl rfl ?_
    refine e_move rfl rfl ?_
    refine e_storeA (i := 1) siz28 rfl rfl (arrv_size _ _) (cells_one ⟨fun _ => rfl, fun _ => rfl, fun _ => rfl, fun _ => rfl, fun _ => rfl, trivial⟩) rfl cells_sz (.inl rfl) ?_
    refine e_assign rfl rfl ?_
    refine e_nil ?_
    refine e_ret ?_
    exact ⟨_, _, rfl, .cell (i := 1) rfl rfl und28 rfl siz28 (arrv_size _ _), .tmp rfl⟩
  · intro hc0
    exact absurd hc0 (by decide)

set_option maxHeartbeats 4000000 in
theorem dadd_ok (r p : Nat → Nat) (A : Nat) (h : Nat → Nat) (n : Nat) (v : Value) (l : List Nat) (hv : Shows G 1 v l.length (l.map by8)) (hlb : ∀ b ∈ l, b < 256) (hA : A < 2 ^ 130) (hr0 : r 0 < 18446744073709551616) (hr1 : r 1 < 18446744073709551616) (hR : k3 r < 2 ^ 124) (hn : n < 16) (hh : ∀ j, j < 16 → h j < 256) (hz : ∀ j, n ≤ j → j < 16 → h j = 0) (hok : (okcd r (wd A) n && okh n h 16) = true) (hlen : l.length + 16 ≤ 9223372036854775807) : Fn Try.prog G 13 #[PV r p (wd A) h n, v] (.tuple #[PV r p (wd (accs (k3 r) A (sS h n l) ((sS h n l).length / 16))) (fun i => ((sS h n l).drop (16 * ((sS h n l).length / 16))).getD i 0) (((sS h n l).drop (16 * ((sS h n l).length / 16))).length : Int), ii 0]) := by
  have hSl := sS_len h n l
  have hSb := sS_lt (n := n) (fun j hj => hh j (by omega)) hlb
  have hwA := wd_lt A
  refine fn2 (n := 37) Try.func13 rfl rfl (by simp) (argE [PV r p (wd A) h n, v] 0) (argE_ok _) ?_
  refine e_seq ?_
  refine e_plain ?_
  refine e_box 0 rfl rfl fun r1 => ?_
  refine e_alloc 1 zer28 rfl fun r2 => ?_
  refine e_assign rfl rfl ?_
  refine e_nil ?_
  refine e_seq ?_
  refine e_seq ?_
  refine e_plain ?_
  refine e_loadA (i := 0) und28 rfl siz28 rfl rfl (arrv_size _ _) rfl ⟨[], trivial⟩ ?_
  refine e_call rfl ent10 (dcheck_fn r p (wd A) h n (hwA 0) (hwA 1) (hwA 2) hr0 hr1) rfl rfl ?_
  refine e_as (congrArg ii (if_pos hok)) ?_
  refine e_assign rfl rfl ?_
  refine e_nil ?_
  refine e_seq ?_
  refine e_plain ?_
  refine e_move rfl rfl ?_
  refine e_ne rfl rfl rfl ?_
  refine e_nil ?_
  refine e_cond rfl ?_ ?_
  · intro hc0
    exact absurd hc0 (by decide)
  · intro hc0
    refine e_skip ?_
    refine e_seq ?_
    refine e_seq ?_
    refine e_plain ?_
    refine e_move rfl rfl ?_
    refine e_lenV hv und33 rfl rfl rfl ?_
    refine e_move rfl rfl ?_
    refine e_nil ?_
    refine e_block ?_
    refine e_loopK [(2, _), (4, _), (5, _), (15, _), (16, _)] [(1, _)] (fun kk E m => ∃ (i : Nat) (ac : Nat) (g : Nat → Nat) (c : Nat), kk = l.length - i ∧ E = [(17, ii i)] ∧ m = [(0, some ⟨r1, cells 24 [pI .u64 2 r, pI .u64 2 p, pI .u64 3 (wd ac), pI .u8 16 g, pV (.int .i64 ((c : Nat) : Int))], 28⟩)] ∧ (i ≤ l.length) ∧ (ac = accs (k3 r) A (sS h n l) ((n + i) / 16)) ∧ (c = (n + i) % 16) ∧ (∀ j, j < 16 → g j = hold (sS h n l) (n + i) j)) [(17, ii 0)] [(0, some ⟨r1, cells 24 [pI .u64 2 r, pI .u64 2 p, pI .u64 3 (wd A), pI .u8 16 h, pV (.int .i64 ((n : Nat) : Int))], 28⟩)] (l.length - 0) ⟨rfl, rfl, rfl, rfl, rfl, rfl, trivial⟩ ⟨rfl, rfl, trivial⟩ ⟨0, A, h, n, rfl, rfl, rfl, by omega, by rw [show (n + 0) / 16 = 0 by omega]; rfl, by omega, hold_first hn hz⟩ ?_
    rintro kk E m ⟨i, ac, g, c, rfl, rfl, rfl, hf0_0, hf0_1, hf0_2, hf0_3⟩
    simp only [catE, catL]
    have hac : ac < 2 ^ 130 := by rw [hf0_1]; exact accs_lt hA _
    refine e_seq ?_
    refine e_plain ?_
    refine e_lt rfl rfl rfl ?_
    refine e_nil ?_
    refine e_seq ?_
    refine e_cond rfl ?_ ?_
    · intro hc1
      have hc1 : i < l.length := by have := of_decide_eq_true hc1; omega
      refine e_skip ?_
      refine e_seq ?_
      refine e_block ?_
      refine e_seq ?_
      refine e_plain ?_
      refine e_atV hv und33 siz5 rfl rfl (by omega) rfl ?_
      refine e_as (congrArg (slAddr _) (Nat.mul_one _)) ?_
      refine e_loadV hv seenG und5 rfl rfl (nth_by8 hc1) rfl ?_
      refine e_assign rfl rfl ?_
      refine e_nil ?_
      refine e_seq ?_
      refine e_plain ?_
      refine e_fld (23) und28 rfl siz3 rfl rfl rfl ?_
      refine e_ldV1 (i := 0) 4 und3 rfl rfl rfl rfl (by decide) rfl ⟨[], trivial⟩ ?_
      refine e_move rfl rfl ?_
      refine e_fld (7) und28 rfl siz26 rfl rfl rfl ?_
      refine e_at (7 + c) und26 siz5 rfl rfl (by omega) (by omega) rfl ?_
      refine e_stI (i := 0) 3 (c) siz5 rfl rfl rfl rfl (by first | rfl | omega) (by omega) (by omega) (.inl rfl) ?_
      refine e_nil ?_
      refine e_seq ?_
      refine e_plain ?_
      refine e_fld (23) und28 rfl siz3 rfl rfl rfl ?_
      refine e_ldV1 (i := 0) 4 und3 rfl rfl rfl rfl (by decide) rfl ⟨[], trivial⟩ ?_
      refine e_add_i (q := 1) rfl rfl rfl (by omega) ?_
      refine e_fld (23) und28 rfl siz3 rfl rfl rfl ?_
      refine e_stV (i := 0) 4 siz3 rfl rfl rfl rfl rfl (by decide) (.inl rfl) ?_
      refine e_nil ?_
      refine e_seq ?_
      refine e_plain ?_
      refine e_fld (23) und28 rfl siz3 rfl rfl rfl ?_
      refine e_ldV1 (i := 0) 4 und3 rfl rfl rfl rfl (by decide) rfl ⟨[], trivial⟩ ?_
      refine e_eq rfl rfl rfl ?_
      refine e_nil ?_
      refine e_cond rfl ?_ ?_
      · intro hc2
        have hc2 := of_decide_eq_true hc2
        have hc16 : c + 1 = 16 := by omega
        refine e_plain ?_
        refine e_loadA (i := 0) und28 rfl siz28 rfl rfl (arrv_size _ _) rfl ⟨[], trivial⟩ ?_
        refine e_as (show _ = PV r p (wd ac) (upd g c l[i]) ((c + 1 : Nat) : Int) from rfl) ?_
        refine e_call rfl ent28 (dtake_fn r p ac (upd g c l[i]) (c + 1) hr0 hr1 hR hac (by omega) (fun j hj => by unfold upd; split; exact hlb _ (List.getElem_mem hc1); rw [hf0_3 j hj]; exact hold_lt hSb _ _) (fun j h1 h2 => absurd h2 (by omega))) rfl rfl ?_
        refine e_storeA (i := 0) siz28 rfl rfl (arrv_size _ _) (cells_one ⟨fun _ => rfl, fun _ => rfl, fun _ => rfl, fun _ => rfl, fun _ => rfl, trivial⟩) rfl cells_sz (.inl rfl) ?_
        refine e_nil ?_
        refine e_plain ?_
        refine e_add_i (q := 1) rfl rfl rfl (by omega) ?_
        refine e_move rfl rfl ?_
        refine e_nil ?_
        refine ⟨_, [(17, ii (i + 1))], [(0, some ⟨r1, cells 24 [pI .u64 2 r, pI .u64 2 p, pI .u64 3 (wd _), pI .u8 16 _, pV (.int .i64 ((_ : Nat) : Int))], 28⟩)], ?_, ⟨rfl, rfl, rfl, rfl, rfl, rfl, trivial⟩, ⟨rfl, rfl, trivial⟩, i + 1, _, _, _, rfl, rfl, rfl, by omega, (by first | exact accs_stay (T := n + i) (by omega) hf0_1 | exact accs_step (T := n + i) (by omega) hf0_1 (by rw [hc16, hf0_2]; exact hold_full (T := n + i) (by omega) (by omega) (sS_at hc1) hf0_3)), by omega, (by first | exact hold_zero (T := n + i) (by omega) | (rw [hf0_2]; exact hold_next (T := n + i) (by omega) (sS_at hc1) hf0_3))⟩
        omega
      · intro hc2
        have hc2 := of_decide_eq_false hc2
        refine e_skip ?_
        refine e_plain ?_
        refine e_add_i (q := 1) rfl rfl rfl (by omega) ?_
        refine e_move rfl rfl ?_
        refine e_nil ?_
        refine ⟨_, [(17, ii (i + 1))], [(0, some ⟨r1, cells 24 [pI .u64 2 r, pI .u64 2 p, pI .u64 3 (wd _), pI .u8 16 _, pV (.int .i64 ((_ : Nat) : Int))], 28⟩)], ?_, ⟨rfl, rfl, rfl, rfl, rfl, rfl, trivial⟩, ⟨rfl, rfl, trivial⟩, i + 1, _, _, _, rfl, rfl, rfl, by omega, (by first | exact accs_stay (T := n + i) (by omega) hf0_1 | exact accs_step (T := n + i) (by omega) hf0_1 (by rw [hc16, hf0_2]; exact hold_full (T := n + i) (by omega) (by omega) (sS_at hc1) hf0_3)), by omega, (by first | exact hold_zero (T := n + i) (by omega) | (rw [hf0_2]; exact hold_next (T := n + i) (by omega) (sS_at hc1) hf0_3))⟩
        omega
    · intro hc1
      have hc1 := of_decide_eq_false hc1
      have hz0 : i = l.length := by omega
      refine e_exit ?_
      refine e_seq ?_
      refine e_plain ?_
      refine e_loadA (i := 0) und28 rfl siz28 rfl rfl (arrv_size _ _) rfl ⟨[], trivial⟩ ?_
      refine e_as (Eq.trans (show _ = PV r p (wd ac) g ((c : Nat) : Int) from rfl) (show _ = PV r p (wd (accs (k3 r) A (sS h n l) ((sS h n l).length / 16))) (fun i => ((sS h n l).drop (16 * ((sS h n l).length / 16))).getD i 0) (((sS h n l).drop (16 * ((sS h n l).length / 16))).length : Int) from PV_congr (fun _ _ => rfl) (fun _ _ => rfl) (fun _ _ => by rw [hf0_1, hSl, hz0]) (hold_end (by rw [hSl, ← hz0]; exact hf0_3)) (by rw [List.length_drop]; omega))) ?_
      refine e_storeA (i := 1) siz28 rfl rfl (arrv_size _ _) (cells_one ⟨fun _ => rfl, fun _ => rfl, fun _ => rfl, fun _ => rfl, fun _ => rfl, trivial⟩) rfl cells_sz (.inl rfl) ?_
      refine e_assign rfl rfl ?_
      refine e_nil ?_
      refine e_ret ?_
      exact ⟨_, _, rfl, .cell (i := 1) rfl rfl und28 rfl siz28 (arrv_size _ _), .tmp rfl⟩

set_option maxHeartbeats 400000 in
theorem dend_bad (r p a h : Nat → Nat) (n : Int) (ha0 : a 0 < 18446744073709551616) (ha1 : a 1 < 18446744073709551616) (ha2 : a 2 < 18446744073709551616) (hr0 : r 0 < 18446744073709551616) (hr1 : r 1 < 18446744073709551616) (hok : ¬ (okcd r a n && okh n h 16) = true) : Fn Try.prog G 15 #[PV r p a h n] (.tuple #[.agg (arr .u8 16 (fun _ => 0)), ii 9]) := by
  refine fn2 (n := 18) Try.func15 rfl rfl (by simp) (argE [PV r p a h n] 0) (argE_ok _) ?_
  refine e_seq ?_
  refine e_plain ?_
  refine e_box 0 rfl rfl fun r1 => ?_
  refine e_alloc 1 zer26 rfl fun r2 => ?_
  refine e_assign rfl rfl ?_
  refine e_nil ?_
  refine e_seq ?_
  refine e_seq ?_
  refine e_plain ?_
  refine e_loadA (i := 0) und28 rfl siz28 rfl rfl (arrv_size _ _) rfl ⟨[], trivial⟩ ?_
  refine e_call rfl ent10 (dcheck_fn r p a h n ha0 ha1 ha2 hr0 hr1) rfl rfl ?_
  refine e_as (congrArg ii (if_neg hok)) ?_
  refine e_assign rfl rfl ?_
  refine e_nil ?_
  refine e_seq ?_
  refine e_plain ?_
  refine e_move rfl rfl ?_
  refine e_ne rfl rfl rfl ?_
  refine e_nil ?_
  refine e_cond rfl ?_ ?_
  · intro hc0
    refine e_seq ?_
    refine e_plain ?_
    refine e_build0 zer26 und26 sis5 rfl ?_
    refine e_move rfl rfl ?_
    refine e_storeA (i := 1) siz26 rfl rfl (arr_size _ _ _) arr_one rfl (arr_sz _ _ _ _ _) (.inl rfl) ?_
    refine e_assign rfl rfl ?_
    refine e_nil ?_
    refine e_ret ?_
    exact ⟨_, _, rfl, .cell (i := 1) rfl rfl und26 rfl siz26 (arr_size _ _ _), .tmp rfl⟩
  · intro hc0
    exact absurd hc0 (by decide)

set_option maxHeartbeats 4000000 in
theorem dend_zero (r p : Nat → Nat) (A : Nat) (h : Nat → Nat) (n : Nat) (hr0 : r 0 < 18446744073709551616) (hr1 : r 1 < 18446744073709551616) (hp0 : p 0 < 18446744073709551616) (hp1 : p 1 < 18446744073709551616) (hn : n = 0) (hok : (okcd r (wd A) n && okh n h 16) = true) : Fn Try.prog G 15 #[PV r p (wd A) h n] (.tuple #[.agg (arr .u8 16 (tgn (k3 (wd A)) (k3 p))), ii 0]) := by
  have hwA := wd_lt A
  refine fn2 (n := 18) Try.func15 rfl rfl (by simp) (argE [PV r p (wd A) h n] 0) (argE_ok _) ?_
  refine e_seq ?_
  refine e_plain ?_
  refine e_box 0 rfl rfl fun r1 => ?_
  refine e_alloc 1 zer26 rfl fun r2 => ?_
  refine e_assign rfl rfl ?_
  refine e_nil ?_
  refine e_seq ?_
  refine e_seq ?_
  refine e_plain ?_
  refine e_loadA (i := 0) und28 rfl siz28 rfl rfl (arrv_size _ _) rfl ⟨[], trivial⟩ ?_
  refine e_call rfl ent10 (dcheck_fn r p (wd A) h n (hwA 0) (hwA 1) (hwA 2) hr0 hr1) rfl rfl ?_
  refine e_as (congrArg ii (if_pos hok)) ?_
  refine e_assign rfl rfl ?_
  refine e_nil ?_
  refine e_seq ?_
  refine e_plain ?_
  refine e_move rfl rfl ?_
  refine e_ne rfl rfl rfl ?_
  refine e_nil ?_
  refine e_cond rfl ?_ ?_
  · intro hc0
    exact absurd hc0 (by decide)
  · intro hc0
    refine e_skip ?_
    refine e_seq ?_
    refine e_seq ?_
    refine e_plain ?_
    refine e_fld (23) und28 rfl siz3 rfl rfl rfl ?_
    refine e_ldV1 (i := 0) 4 und3 rfl rfl rfl rfl (by decide) rfl ⟨[], trivial⟩ ?_
    refine e_gt rfl rfl rfl ?_
    refine e_nil ?_
    refine e_cond rfl ?_ ?_
    · intro hc1
      exact absurd (of_decide_eq_true hc1) (by omega)
    · intro hc1
      refine e_skip ?_
      refine e_seq ?_
      refine e_plain ?_
      refine e_loadA (i := 0) und28 rfl siz28 rfl rfl (arrv_size _ _) rfl ⟨[], trivial⟩ ?_
      refine e_call rfl ent30 (dpad_fn r p A h n hp0 hp1) rfl rfl ?_
      refine e_storeA (i := 1) siz26 rfl rfl (arr_size _ _ _) arr_one rfl (arr_sz _ _ _ _ _) (.inl rfl) ?_
      refine e_assign rfl rfl ?_
      refine e_nil ?_
      refine e_ret ?_
      exact ⟨_, _, rfl, .cell (i := 1) rfl rfl und26 rfl siz26 (arr_size _ _ _), .tmp rfl⟩

set_option maxHeartbeats 4000000 in
theorem dend_some (r p : Nat → Nat) (A : Nat) (h : Nat → Nat) (n : Nat) (hr0 : r 0 < 18446744073709551616) (hr1 : r 1 < 18446744073709551616) (hp0 : p 0 < 18446744073709551616) (hp1 : p 1 < 18446744073709551616) (hR : k3 r < 2 ^ 124) (hA : A < 2 ^ 130) (hh : ∀ j, j < 16 → h j < 256) (hz : ∀ j, n ≤ j → j < 16 → h j = 0) (hn : 0 < n) (hn2 : n < 16) (hok : (okcd r (wd A) n && okh n h 16) = true) : Fn Try.prog G 15 #[PV r p (wd A) h n] (.tuple #[.agg (arr .u8 16 (tgn (k3 (wd (pst (k3 r) A ((List.range n).map h)))) (k3 p))), ii 0]) := by
  have hwA := wd_lt A
  refine fn2 (n := 18) Try.func15 rfl rfl (by simp) (argE [PV r p (wd A) h n] 0) (argE_ok _) ?_
  refine e_seq ?_
  refine e_plain ?_
  refine e_box 0 rfl rfl fun r1 => ?_
  refine e_alloc 1 zer26 rfl fun r2 => ?_
  refine e_assign rfl rfl ?_
  refine e_nil ?_
  refine e_seq ?_
  refine e_seq ?_
  refine e_plain ?_
  refine e_loadA (i := 0) und28 rfl siz28 rfl rfl (arrv_size _ _) rfl ⟨[], trivial⟩ ?_
  refine e_call rfl ent10 (dcheck_fn r p (wd A) h n (hwA 0) (hwA 1) (hwA 2) hr0 hr1) rfl rfl ?_
  refine e_as (congrArg ii (if_pos hok)) ?_
  refine e_assign rfl rfl ?_
  refine e_nil ?_
  refine e_seq ?_
  refine e_plain ?_
  refine e_move rfl rfl ?_
  refine e_ne rfl rfl rfl ?_
  refine e_nil ?_
  refine e_cond rfl ?_ ?_
  · intro hc0
    exact absurd hc0 (by decide)
  · intro hc0
    refine e_skip ?_
    refine e_seq ?_
    refine e_seq ?_
    refine e_plain ?_
    refine e_fld (23) und28 rfl siz3 rfl rfl rfl ?_
    refine e_ldV1 (i := 0) 4 und3 rfl rfl rfl rfl (by decide) rfl ⟨[], trivial⟩ ?_
    refine e_gt rfl rfl rfl ?_
    refine e_nil ?_
    refine e_cond rfl ?_ ?_
    · intro hc1
      refine e_plain ?_
      refine e_loadA (i := 0) und28 rfl siz28 rfl rfl (arrv_size _ _) rfl ⟨[], trivial⟩ ?_
      refine e_call rfl ent28 (dtake_fn r p A h n hr0 hr1 hR hA (by omega) hh hz) rfl rfl ?_
      refine e_storeA (i := 0) siz28 rfl rfl (arrv_size _ _) (cells_one ⟨fun _ => rfl, fun _ => rfl, fun _ => rfl, fun _ => rfl, fun _ => rfl, trivial⟩) rfl cells_sz (.inl rfl) ?_
      refine e_nil ?_
      refine e_seq ?_
      refine e_plain ?_
      refine e_loadA (i := 0) und28 rfl siz28 rfl rfl (arrv_size _ _) rfl ⟨[], trivial⟩ ?_
      refine e_call rfl ent30 (dpad_fn r p (pst (k3 r) A ((List.range n).map h)) (fun _ => 0) ((0 : Nat) : Int) hp0 hp1) rfl rfl ?_
      refine e_storeA (i := 1) siz26 rfl rfl (arr_size _ _ _) arr_one rfl (arr_sz _ _ _ _ _) (.inl rfl) ?_
      refine e_assign rfl rfl ?_
      refine e_nil ?_
      refine e_ret ?_
      exact ⟨_, _, rfl, .cell (i := 1) rfl rfl und26 rfl siz26 (arr_size _ _ _), .tmp rfl⟩
    · intro hc1
      exact absurd (of_decide_eq_false hc1) (by omega)

end Go.Proofs.Ytmnmhmpklknleaa
