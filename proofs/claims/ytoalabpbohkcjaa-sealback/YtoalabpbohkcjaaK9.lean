import Derived.Test.YtoalabpbohkcjaaK8
import Derived.Test.YtoalabpbohkcjaaK5
import Derived.Test.YtoalabpbohkcjaaK7
import Derived.Test.YtoalabpbohkcjaaK6
import Derived.Lib.AppendZeros
import Derived.Test.YtoalabpbohkcjaaK1
import Derived.ProofKit
import Derived.OpenShut
import Derived.Test.YtoalabpbohkcjaaK3
import Derived.Carry
import Derived.SizedLaws

/-
  Walks, written by a program of ours off the loaded functions.
-/
namespace Go.Proofs.Ytoalabpbohkcjaa
open Go Go.RowKit


theorem ent46 : enters Try.prog 46 = true := by kernel_rfl
theorem ent47 : enters Try.prog 47 = true := by kernel_rfl
theorem ent50 : enters Try.prog 50 = true := by kernel_rfl

variable {G : Mem}

set_option maxHeartbeats 400000 in
theorem dadd_bad (r p a h : Nat → Nat) (n : Int) (v : Value) (ha0 : a 0 < 18446744073709551616) (ha1 : a 1 < 18446744073709551616) (ha2 : a 2 < 18446744073709551616) (hr0 : r 0 < 18446744073709551616) (hr1 : r 1 < 18446744073709551616) (hok : ¬ (okcd r a n && okh n h 16) = true) : Fn Try.prog G 31 #[PV r p a h n, v] (.tuple #[PV (fun _ => 0) (fun _ => 0) (fun _ => 0) (fun _ => 0) 0, ii 9]) := by
  refine fn2 (n := 37) Try.func31 rfl rfl (by simp) (argE [PV r p a h n, v] 0) (argE_ok _) ?_
  refine e_seq ?_
  refine e_plain ?_
  refine e_box 0 rfl rfl fun r1 => ?_
  refine e_alloc 1 zer61 rfl fun r2 => ?_
  refine e_assign rfl rfl ?_
  refine e_nil ?_
  refine e_seq ?_
  refine e_seq ?_
  refine e_plain ?_
  refine e_loadA (i := 0) und61 rfl siz61 rfl rfl (arrv_size _ _) rfl ⟨[], trivial⟩ ?_
  refine e_call rfl ent46 (dcheck_fn r p a h n ha0 ha1 ha2 hr0 hr1) rfl rfl ?_
  refine e_as (congrArg ii (if_neg hok)) ?_
  refine e_assign rfl rfl ?_
  refine e_nil ?_
  refine e_seq ?_
  refine e_plain ?_
  refine e_move rfl rfl ?_
  refine e_ne rfl rfl rfl ?_
  refine e_nil ?_
  refine e_cond rfl ?_ ?_
  · intro hc0
    refine e_seq ?_
    refine e_plain ?_
    refine e_buildS _ zer61 und61 pls61 rfl rfl rfl ?_
    refine e_move rfl rfl ?_
    refine e_storeA (i := 1) siz61 rfl rfl (arrv_size _ _) (cells_one ⟨fun _ => rfl, fun _ => rfl, fun _ => rfl, fun _ => rfl, fun _ => rfl, trivial⟩) rfl cells_sz (.inl rfl) ?_
    refine e_assign rfl rfl ?_
    refine e_nil ?_
    refine e_ret ?_
    exact ⟨_, _, rfl, .cell (i := 1) rfl rfl und61 rfl siz61 (arrv_size _ _), .tmp rfl⟩
  · intro hc0
    exact absurd hc0 (by decide)

set_option maxHeartbeats 4000000 in
theorem dadd_ok (r p : Nat → Nat) (A : Nat) (h : Nat → Nat) (n : Nat) (v : Value) (l : List Nat) (hv : Shows G 1 v l.length (l.map by8)) (hlb : ∀ b ∈ l, b < 256) (hA : A < 2 ^ 130) (hr0 : r 0 < 18446744073709551616) (hr1 : r 1 < 18446744073709551616) (hR : k3 r < 2 ^ 124) (hn : n < 16) (hh : ∀ j, j < 16 → h j < 256) (hz : ∀ j, n ≤ j → j < 16 → h j = 0) (hok : (okcd r (wd A) n && okh n h 16) = true) (hlen : l.length + 16 ≤ 9223372036854775807) : Fn Try.prog G 31 #[PV r p (wd A) h n, v] (.tuple #[PV r p (wd (accs (k3 r) A (sS h n l) ((sS h n l).length / 16))) (fun i => ((sS h n l).drop (16 * ((sS h n l).length / 16))).getD i 0) (((sS h n l).drop (16 * ((sS h n l).length / 16))).length : Int), ii 0]) := by
  have hSl := sS_len h n l
  have hSb := sS_lt (n := n) (fun j hj => hh j (by omega)) hlb
  have hwA := wd_lt A
  refine fn2 (n := 37) Try.func31 rfl rfl (by simp) (argE [PV r p (wd A) h n, v] 0) (argE_ok _) ?_
  refine e_seq ?_
  refine e_plain ?_
  refine e_box 0 rfl rfl fun r1 => ?_
  refine e_alloc 1 zer61 rfl fun r2 => ?_
  refine e_assign rfl rfl ?_
  refine e_nil ?_
  refine e_seq ?_
  refine e_seq ?_
  refine e_plain ?_
  refine e_loadA (i := 0) und61 rfl siz61 rfl rfl (arrv_size _ _) rfl ⟨[], trivial⟩ ?_
  refine e_call rfl ent46 (dcheck_fn r p (wd A) h n (hwA 0) (hwA 1) (hwA 2) hr0 hr1) rfl rfl ?_
  refine e_as (congrArg ii (if_pos hok)) ?_
  refine e_assign rfl rfl ?_
  refine e_nil ?_
  refine e_seq ?_
  refine e_plain ?_
  refine e_move rfl rfl ?_
  refine e_ne rfl rfl rfl ?_
  refine e_nil ?_
  refine e_cond rfl ?_ ?_
  · intro hc0
    exact absurd hc0 (by decide)
  · intro hc0
    refine e_skip ?_
    refine e_seq ?_
    refine e_seq ?_
    refine e_plain ?_
    refine e_move rfl rfl ?_
    refine e_lenV hv und24 rfl rfl rfl ?_
    refine e_move rfl rfl ?_
    refine e_nil ?_
    refine e_block ?_
    refine e_loopK [(2, _), (4, _), (5, _), (15, _), (16, _)] [(1, _)] (fun kk E m => ∃ (i : Nat) (ac : Nat) (g : Nat → Nat) (c : Nat), kk = l.length - i ∧ E = [(17, ii i)] ∧ m = [(0, some ⟨r1, cells 24 [pI .u64 2 r, pI .u64 2 p, pI .u64 3 (wd ac), pI .u8 16 g, pV (.int .i64 ((c : Nat) : Int))], 61⟩)] ∧ (i ≤ l.length) ∧ (ac = accs (k3 r) A (sS h n l) ((n + i) / 16)) ∧ (c = (n + i) % 16) ∧ (∀ j, j < 16 → g j = hold (sS h n l) (n + i) j)) [(17, ii 0)] [(0, some ⟨r1, cells 24 [pI .u64 2 r, pI .u64 2 p, pI .u64 3 (wd A), pI .u8 16 h, pV (.int .i64 ((n : Nat) : Int))], 61⟩)] (l.length - 0) ⟨rfl, rfl, rfl, rfl, rfl, rfl, trivial⟩ ⟨rfl, rfl, trivial⟩ ⟨0, A, h, n, rfl, rfl, rfl, by omega, by rw [show (n + 0) / 16 = 0 by omega]; rfl, by omega, hold_first hn hz⟩ ?_
    rintro kk E m ⟨i, ac, g, c, rfl, rfl, rfl, hf0_0, hf0_1, hf0_2, hf0_3⟩
    simp only [catE, catL]
    have hac : ac < 2 ^ 130 := by rw [hf0_1]; exact accs_lt hA _
    refine e_seq ?_
    refine e_plain ?_
    refine e_lt rfl rfl rfl ?_
    refine e_nil ?_
    refine e_seq ?_
    refine e_cond rfl ?_ ?_
    · intro hc1
      have hc1 : i < l.length := by have := of_decide_eq_true hc1; omega
      refine e_skip ?_
      refine e_seq ?_
      refine e_block ?_
      refine e_seq ?_
      refine e_plain ?_
      refine e_atV hv und24 siz5 rfl rfl (by omega) rfl ?_
      refine e_as (congrArg (slAddr _) (Nat.mul_one _)) ?_
      refine e_loadV hv seenG und5 rfl rfl (nth_by8 hc1) rfl ?_
      refine e_assign rfl rfl ?_
      refine e_nil ?_
      refine e_seq ?_
      refine e_plain ?_
      refine e_fld (23) und61 rfl siz3 rfl rfl rfl ?_
      refine e_ldV1 (i := 0) 4 und3 rfl rfl rfl rfl (by decide) rfl ⟨[], trivial⟩ ?_
      refine e_move rfl rfl ?_
      refine e_fld (7) und61 rfl siz38 rfl rfl rfl ?_
      refine e_at (7 + c) und38 siz5 rfl rfl (by omega) (by omega) rfl ?_
      refine e_stI (i := 0) 3 (c) siz5 rfl rfl rfl rfl (by first | rfl | omega) (by omega) (by omega) (.inl rfl) ?_
      refine e_nil ?_
      refine e_seq ?_
      refine e_plain ?_
      refine e_fld (23) und61 rfl siz3 rfl rfl rfl ?_
      refine e_ldV1 (i := 0) 4 und3 rfl rfl rfl rfl (by decide) rfl ⟨[], trivial⟩ ?_
      refine e_add_i (q := 1) rfl rfl rfl (by omega) ?_
      refine e_fld (23) und61 rfl siz3 rfl rfl rfl ?_
      refine e_stV (i := 0) 4 siz3 rfl rfl rfl rfl rfl (by decide) (.inl rfl) ?_
      refine e_nil ?_
      refine e_seq ?_
      refine e_plain ?_
      refine e_fld (23) und61 rfl siz3 rfl rfl rfl ?_
      refine e_ldV1 (i := 0) 4 und3 rfl rfl rfl rfl (by decide) rfl ⟨[], trivial⟩ ?_
      refine e_eq rfl rfl rfl ?_
      refine e_nil ?_
      refine e_cond rfl ?_ ?_
      · intro hc2
        have hc2 := of_decide_eq_true hc2
        have hc16 : c + 1 = 16 := by omega
        refine e_plain ?_
        refine e_loadA (i := 0) und61 rfl siz61 rfl rfl (arrv_size _ _) rfl ⟨[], trivial⟩ ?_
        refine e_as (show _ = PV r p (wd ac) (upd g c l[i]) ((c + 1 : Nat) : Int) from rfl) ?_
        refine e_call rfl ent47 (dtake_fn r p ac (upd g c l[i]) (c + 1) hr0 hr1 hR hac (by omega) (fun j hj => by unfold upd; split; exact hlb _ (List.getElem_mem hc1); rw [hf0_3 j hj]; exact hold_lt hSb _ _) (fun j h1 h2 => absurd h2 (by omega))) rfl rfl ?_
        refine e_storeA (i := 0) siz61 rfl rfl (arrv_size _ _) (cells_one ⟨fun _ => rfl, fun _ => rfl, fun _ => rfl, fun _ => rfl, fun _ => rfl, trivial⟩) rfl cells_sz (.inl rfl) ?_
        refine e_nil ?_
        refine e_plain ?_
        refine e_add_i (q := 1) rfl rfl rfl (by omega) ?_
        refine e_move rfl rfl ?_
        refine e_nil ?_
        refine ⟨_, [(17, ii (i + 1))], [(0, some ⟨r1, cells 24 [pI .u64 2 r, pI .u64 2 p, pI .u64 3 (wd _), pI .u8 16 _, pV (.int .i64 ((_ : Nat) : Int))], 61⟩)], ?_, ⟨rfl, rfl, rfl, rfl, rfl, rfl, trivial⟩, ⟨rfl, rfl, trivial⟩, i + 1, _, _, _, rfl, rfl, rfl, by omega, (by first | exact accs_stay (T := n + i) (by omega) hf0_1 | exact accs_step (T := n + i) (by omega) hf0_1 (by rw [hc16, hf0_2]; exact hold_full (T := n + i) (by omega) (by omega) (sS_at hc1) hf0_3)), by omega, (by first | exact hold_zero (T := n + i) (by omega) | (rw [hf0_2]; exact hold_next (T := n + i) (by omega) (sS_at hc1) hf0_3))⟩
        omega
      · intro hc2
        have hc2 := of_decide_eq_false hc2
        refine e_skip ?_
        refine e_plain ?_
        refine e_add_i (q := 1) rfl rfl rfl (by omega) ?_
        refine e_move rfl rfl ?_
        refine e_nil ?_
        refine ⟨_, [(17, ii (i + 1))], [(0, some ⟨r1, cells 24 [pI .u64 2 r, pI .u64 2 p, pI .u64 3 (wd _), pI .u8 16 _, pV (.int .i64 ((_ : Nat) : Int))], 61⟩)], ?_, ⟨rfl, rfl, rfl, rfl, rfl, rfl, trivial⟩, ⟨rfl, rfl, trivial⟩, i + 1, _, _, _, rfl, rfl, rfl, by omega, (by first | exact accs_stay (T := n + i) (by omega) hf0_1 | exact accs_step (T := n + i) (by omega) hf0_1 (by rw [hc16, hf0_2]; exact hold_full (T := n + i) (by omega) (by omega) (sS_at hc1) hf0_3)), by omega, (by first | exact hold_zero (T := n + i) (by omega) | (rw [hf0_2]; exact hold_next (T := n + i) (by omega) (sS_at hc1) hf0_3))⟩
        omega
    · intro hc1
      have hc1 := of_decide_eq_false hc1
      have hz0 : i = l.length := by omega
      refine e_exit ?_
      refine e_seq ?_
      refine e_plain ?_
      refine e_loadA (i := 0) und61 rfl siz61 rfl rfl (arrv_size _ _) rfl ⟨[], trivial⟩ ?_
      refine e_as (Eq.trans (show _ = PV r p (wd ac) g ((c : Nat) : Int) from rfl) (show _ = PV r p (wd (accs (k3 r) A (sS h n l) ((sS h n l).length / 16))) (fun i => ((sS h n l).drop (16 * ((sS h n l).length / 16))).getD i 0) (((sS h n l).drop (16 * ((sS h n l).length / 16))).length : Int) from PV_congr (fun _ _ => rfl) (fun _ _ => rfl) (fun _ _ => by rw [hf0_1, hSl, hz0]) (hold_end (by rw [hSl, ← hz0]; exact hf0_3)) (by rw [List.length_drop]; omega))) ?_
      refine e_storeA (i := 1) siz61 rfl rfl (arrv_size _ _) (cells_one ⟨fun _ => rfl, fun _ => rfl, fun _ => rfl, fun _ => rfl, fun _ => rfl, trivial⟩) rfl cells_sz (.inl rfl) ?_
      refine e_assign rfl rfl ?_
      refine e_nil ?_
      refine e_ret ?_
      exact ⟨_, _, rfl, .cell (i := 1) rfl rfl und61 rfl siz61 (arrv_size _ _), .tmp rfl⟩

set_option maxHeartbeats 400000 in
theorem dend_bad (r p a h : Nat → Nat) (n : Int) (ha0 : a 0 < 18446744073709551616) (ha1 : a 1 < 18446744073709551616) (ha2 : a 2 < 18446744073709551616) (hr0 : r 0 < 18446744073709551616) (hr1 : r 1 < 18446744073709551616) (hok : ¬ (okcd r a n && okh n h 16) = true) : Fn Try.prog G 33 #[PV r p a h n] (.tuple #[.agg (arr .u8 16 (fun _ => 0)), ii 9]) := by
  refine fn2 (n := 18) Try.func33 rfl rfl (by simp) (argE [PV r p a h n] 0) (argE_ok _) ?_
  refine e_seq ?_
  refine e_plain ?_
  refine e_box 0 rfl rfl fun r1 => ?_
  refine e_alloc 1 zer38 rfl fun r2 => ?_
  refine e_assign rfl rfl ?_
  refine e_nil ?_
  refine e_seq ?_
  refine e_seq ?_
  refine e_plain ?_
  refine e_loadA (i := 0) und61 rfl siz61 rfl rfl (arrv_size _ _) rfl ⟨[], trivial⟩ ?_
  refine e_call rfl ent46 (dcheck_fn r p a h n ha0 ha1 ha2 hr0 hr1) rfl rfl ?_
  refine e_as (congrArg ii (if_neg hok)) ?_
  refine e_assign rfl rfl ?_
  refine e_nil ?_
  refine e_seq ?_
  refine e_plain ?_
  refine e_move rfl rfl ?_
  refine e_ne rfl rfl rfl ?_
  refine e_nil ?_
  refine e_cond rfl ?_ ?_
  · intro hc0
    refine e_seq ?_
    refine e_plain ?_
    refine e_build0 zer38 und38 sis5 rfl ?_
    refine e_move rfl rfl ?_
    refine e_storeA (i := 1) siz38 rfl rfl (arr_size _ _ _) arr_one rfl (arr_sz _ _ _ _ _) (.inl rfl) ?_
    refine e_assign rfl rfl ?_
    refine e_nil ?_
    refine e_ret ?_
    exact ⟨_, _, rfl, .cell (i := 1) rfl rfl und38 rfl siz38 (arr_size _ _ _), .tmp rfl⟩
  · intro hc0
    exact absurd hc0 (by decide)

set_option maxHeartbeats 4000000 in
theorem dend_zero (r p : Nat → Nat) (A : Nat) (h : Nat → Nat) (n : Nat) (hr0 : r 0 < 18446744073709551616) (hr1 : r 1 < 18446744073709551616) (hp0 : p 0 < 18446744073709551616) (hp1 : p 1 < 18446744073709551616) (hn : n = 0) (hok : (okcd r (wd A) n && okh n h 16) = true) : Fn Try.prog G 33 #[PV r p (wd A) h n] (.tuple #[.agg (arr .u8 16 (tgn (k3 (wd A)) (k3 p))), ii 0]) := by
  have hwA := wd_lt A
  refine fn2 (n := 18) Try.func33 rfl rfl (by simp) (argE [PV r p (wd A) h n] 0) (argE_ok _) ?_
  refine e_seq ?_
  refine e_plain ?_
  refine e_box 0 rfl rfl fun r1 => ?_
  refine e_alloc 1 zer38 rfl fun r2 => ?_
  refine e_assign rfl rfl ?_
  refine e_nil ?_
  refine e_seq ?_
  refine e_seq ?_
  refine e_plain ?_
  refine e_loadA (i := 0) und61 rfl siz61 rfl rfl (arrv_size _ _) rfl ⟨[], trivial⟩ ?_
  refine e_call rfl ent46 (dcheck_fn r p (wd A) h n (hwA 0) (hwA 1) (hwA 2) hr0 hr1) rfl rfl ?_
  refine e_as (congrArg ii (if_pos hok)) ?_
  refine e_assign rfl rfl ?_
  refine e_nil ?_
  refine e_seq ?_
  refine e_plain ?_
  refine e_move rfl rfl ?_
  refine e_ne rfl rfl rfl ?_
  refine e_nil ?_
  refine e_cond rfl ?_ ?_
  · intro hc0
    exact absurd hc0 (by decide)
  · intro hc0
    refine e_skip ?_
    refine e_seq ?_
    refine e_seq ?_
    refine e_plain ?_
    refine e_fld (23) und61 rfl siz3 rfl rfl rfl ?_
    refine e_ldV1 (i := 0) 4 und3 rfl rfl rfl rfl (by decide) rfl ⟨[], trivial⟩ ?_
    refine e_gt rfl rfl rfl ?_
    refine e_nil ?_
    refine e_cond rfl ?_ ?_
    · intro hc1
      exact absurd (of_decide_eq_true hc1) (by omega)
    · intro hc1
      refine e_skip ?_
      refine e_seq ?_
      refine e_plain ?_
      refine e_loadA (i := 0) und61 rfl siz61 rfl rfl (arrv_size _ _) rfl ⟨[], trivial⟩ ?_
      refine e_call rfl ent50 (dpad_fn r p A h n hp0 hp1) rfl rfl ?_
      refine e_storeA (i := 1) siz38 rfl rfl (arr_size _ _ _) arr_one rfl (arr_sz _ _ _ _ _) (.inl rfl) ?_
      refine e_assign rfl rfl ?_
      refine e_nil ?_
      refine e_ret ?_
      exact ⟨_, _, rfl, .cell (i := 1) rfl rfl und38 rfl siz38 (arr_size _ _ _), .tmp rfl⟩

set_option maxHeartbeats 4000000 in
theorem dend_some (r p : Nat → Nat) (A : Nat) (h : Nat → Nat) (n : Nat) (hr0 : r 0 < 18446744073709551616) (hr1 : r 1 < 18446744073709551616) (hp0 : p 0 < 18446744073709551616) (hp1 : p 1 < 18446744073709551616) (hR : k3 r < 2 ^ 124) (hA : A < 2 ^ 130) (hh : ∀ j, j < 16 → h j < 256) (hz : ∀ j, n ≤ j → j < 16 → h j = 0) (hn : 0 < n) (hn2 : n < 16) (hok : (okcd r (wd A) n && okh n h 16) = true) : Fn Try.prog G 33 #[PV r p (wd A) h n] (.tuple #[.agg (arr .u8 16 (tgn (k3 (wd (pst (k3 r) A ((List.range n).map h)))) (k3 p))), ii 0]) := by
  have hwA := wd_lt A
  refine fn2 (n := 18) Try.func33 rfl rfl (by simp) (argE [PV r p (wd A) h n] 0) (argE_ok _) ?_
  refine e_seq ?_
  refine e_plain ?_
  refine e_box 0 rfl rfl fun r1 => ?_
  refine e_alloc 1 zer38 rfl fun r2 => ?_
  refine e_assign rfl rfl ?_
  refine e_nil ?_
  refine e_seq ?_
  refine e_seq ?_
  refine e_plain ?_
  refine e_loadA (i := 0) und61 rfl siz61 rfl rfl (arrv_size _ _) rfl ⟨[], trivial⟩ ?_
  refine e_call rfl ent46 (dcheck_fn r p (wd A) h n (hwA 0) (hwA 1) (hwA 2) hr0 hr1) rfl rfl ?_
  refine e_as (congrArg ii (if_pos hok)) ?_
  refine e_assign rfl rfl ?_
  refine e_nil ?_
  refine e_seq ?_
  refine e_plain ?_
  refine e_move rfl rfl ?_
  refine e_ne rfl rfl rfl ?_
  refine e_nil ?_
  refine e_cond rfl ?_ ?_
  · intro hc0
    exact absurd hc0 (by decide)
  · intro hc0
    refine e_skip ?_
    refine e_seq ?_
    refine e_seq ?_
    refine e_plain ?_
    refine e_fld (23) und61 rfl siz3 rfl rfl rfl ?_
    refine e_ldV1 (i := 0) 4 und3 rfl rfl rfl rfl (by decide) rfl ⟨[], trivial⟩ ?_
    refine e_gt rfl rfl rfl ?_
    refine e_nil ?_
    refine e_cond rfl ?_ ?_
    · intro hc1
      refine e_plain ?_
      refine e_loadA (i := 0) und61 rfl siz61 rfl rfl (arrv_size _ _) rfl ⟨[], trivial⟩ ?_
      refine e_call rfl ent47 (dtake_fn r p A h n hr0 hr1 hR hA (by omega) hh hz) rfl rfl ?_
      refine e_storeA (i := 0) siz61 rfl rfl (arrv_size _ _) (cells_one ⟨fun _ => rfl, fun _ => rfl, fun _ => rfl, fun _ => rfl, fun _ => rfl, trivial⟩) rfl cells_sz (.inl rfl) ?_
      refine e_nil ?_
      refine e_seq ?_
      refine e_plain ?_
      refine e_loadA (i := 0) und61 rfl siz61 rfl rfl (arrv_size _ _) rfl ⟨[], trivial⟩ ?_
      refine e_call rfl ent50 (dpad_fn r p (pst (k3 r) A ((List.range n).map h)) (fun _ => 0) ((0 : Nat) : Int) hp0 hp1) rfl rfl ?_
      refine e_storeA (i := 1) siz38 rfl rfl (arr_size _ _ _) arr_one rfl (arr_sz _ _ _ _ _) (.inl rfl) ?_
      refine e_assign rfl rfl ?_
      refine e_nil ?_
      refine e_ret ?_
      exact ⟨_, _, rfl, .cell (i := 1) rfl rfl und38 rfl siz38 (arr_size _ _ _), .tmp rfl⟩
    · intro hc1
      exact absurd (of_decide_eq_false hc1) (by omega)

end Go.Proofs.Ytoalabpbohkcjaa

/-
  Walks, written by a program of ours off the loaded functions.
-/
namespace Go.Proofs.Ytoalabpbohkcjaa
open Go Go.RowKit


theorem dbegin_msg {G : Mem} (f : Nat → Nat) (hf : ∀ j, j < 32 → f j < 256) : Fn Try.prog G 32 #[.agg (arr .u8 32 f)] (stP f []) := by
  rw [← stP_nil f]; exact dbegin_fn f hf
theorem dcheck_msg {G : Mem} (f : Nat → Nat) (m : List Nat) (hf : ∀ j, j < 32 → f j < 256) : Fn Try.prog G 46 #[stP f m] (ii 0) := by
  have hb := bL_lt hf
  have hok := ok_heldF (okR_begun hf) (k3 (w8 (bL f))) m
  have h := dcheck_fn (G := G) (w8 (bL f)) (fun j => w8 (bL f) (j + 2)) (wd (acc0 (k3 (w8 (bL f))) m)) (heldF m) (rem16 m).length (wd_lt _ 0) (wd_lt _ 1) (wd_lt _ 2) (w8_lt hb 0) (w8_lt hb 1)
  rw [if_pos hok] at h
  exact h
theorem dcheck_none {G : Mem} : Fn Try.prog G 46 #[PV (fun _ => 0) (fun _ => 0) (fun _ => 0) (fun _ => 0) 16] (ii 9) := by
  have h := dcheck_fn (G := G) (fun _ => 0) (fun _ => 0) (fun _ => 0) (fun _ => 0) 16 (by decide) (by decide) (by decide) (by decide) (by decide)
  rw [if_neg (by decide +kernel)] at h
  exact h
theorem heldF_zero (m : List Nat) : ∀ j, (rem16 m).length ≤ j → j < 16 → heldF m j = 0 := fun j h1 _ => by
  unfold heldF
  rw [List.getD_eq_getElem?_getD, List.getElem?_eq_none h1]; rfl
theorem dadded_msg {G : Mem} (f : Nat → Nat) (m : List Nat) (v : Value) (l : List Nat) (hf : ∀ j, j < 32 → f j < 256) (hm : ∀ b ∈ m, b < 256) (hv : Shows G 1 v l.length (l.map by8)) (hlb : ∀ b ∈ l, b < 256) (hlen : l.length + 16 ≤ 9223372036854775807) :
    Fn Try.prog G 31 #[stP f m, v] (.tuple #[stP f (m ++ l), ii 0]) := by
  have hb := bL_lt hf
  have h := dadd_ok (G := G) (w8 (bL f)) (fun j => w8 (bL f) (j + 2)) (acc0 (k3 (w8 (bL f))) m) (heldF m) (rem16 m).length v l hv hlb (Nat.lt_trans (acc0_lt _ _) QQ_lt) (w8_lt hb 0) (w8_lt hb 1) (k3_small (w8_lt hb 0) (w8_lt hb 1) (okR_begun hf)) (by rw [rem16_len]; omega) (fun j _ => heldF_lt hm j) (heldF_zero m) (ok_heldF (okR_begun hf) _ m) hlen
  rw [sS_held, acc0_app, rem16_app] at h
  exact h
theorem dended_msg {G : Mem} (f : Nat → Nat) (m : List Nat) (hf : ∀ j, j < 32 → f j < 256) (hm : ∀ b ∈ m, b < 256) : Fn Try.prog G 33 #[stP f m] (.tuple #[.agg (arr .u8 16 (ptg f m)), ii 0]) := by
  have hb := bL_lt hf
  have hok := ok_heldF (okR_begun hf) (k3 (w8 (bL f))) m
  by_cases h0 : (rem16 m).length = 0
  · have h := dend_zero (G := G) (w8 (bL f)) (fun j => w8 (bL f) (j + 2)) (acc0 (k3 (w8 (bL f))) m) (heldF m) (rem16 m).length (w8_lt hb 0) (w8_lt hb 1) (w8_lt hb 2) (w8_lt hb 3) h0 hok
    unfold stP cP
    rw [show acc0 (k3 (w8 (bL f))) m = accE (k3 (w8 (bL f))) m from (if_pos h0).symm] at h ⊢
    exact h
  · have h := dend_some (G := G) (w8 (bL f)) (fun j => w8 (bL f) (j + 2)) (acc0 (k3 (w8 (bL f))) m) (heldF m) (rem16 m).length (w8_lt hb 0) (w8_lt hb 1) (w8_lt hb 2) (w8_lt hb 3) (k3_small (w8_lt hb 0) (w8_lt hb 1) (okR_begun hf)) (Nat.lt_trans (acc0_lt _ _) QQ_lt) (fun j _ => heldF_lt hm j) (heldF_zero m) (by omega) (by rw [rem16_len]; omega) hok
    rw [held_list, show pst (k3 (w8 (bL f))) (acc0 (k3 (w8 (bL f))) m) (rem16 m) = accE (k3 (w8 (bL f))) m from (if_neg h0).symm] at h
    exact h

theorem ent31 : enters Try.prog 31 = true := by kernel_rfl
theorem ent32 : enters Try.prog 32 = true := by kernel_rfl
theorem ent33 : enters Try.prog 33 = true := by kernel_rfl

variable {G : Mem}

set_option maxHeartbeats 2000000 in
theorem dtag_fn (f : Nat → Nat) (v : Value) (l : List Nat) (hf : ∀ j, j < 32 → f j < 256) (hb : ∀ b ∈ l, b < 256) (hl : l.length ≤ 140737488351232) (hv : Shows G 1 v l.length (l.map by8)) : Fn Try.prog G 21 #[.agg (arr .u8 32 f), v] (.agg (arr .u8 16 (ptg f l))) := by
  have hl2 : l.length + 16 ≤ 9223372036854775807 := by omega
  refine fn1 (n := 22) Try.func21 rfl rfl (by simp) (argE [.agg (arr .u8 32 f), v] 0) (argE_ok _) ?_
  refine e_seq ?_
  refine e_plain ?_
  refine e_box 0 rfl rfl fun r1 => ?_
  refine e_alloc 1 zer38 rfl fun r2 => ?_
  refine e_nil ?_
  refine e_seq ?_
  refine e_plain ?_
  refine e_loadA (i := 0) und36 rfl siz36 rfl rfl (arr_size _ _ _) rfl ⟨[], trivial⟩ ?_
  refine e_call rfl ent32 (dbegin_msg f hf) rfl rfl ?_
  refine e_move rfl rfl ?_
  refine e_call rfl ent31 (dadded_msg f [] v l hf (by simp) hv hb hl2) rfl rfl ?_
  refine e_as (show _ = Value.tuple #[stP f l, ii 0] from rfl) ?_
  refine e_move rfl rfl ?_
  refine e_extract rfl rfl rfl ?_
  refine e_extract rfl rfl rfl ?_
  refine e_alloc 2 zer61 rfl fun r3 => ?_
  refine e_storeA (i := 2) siz61 rfl rfl (arrv_size _ _) (cells_one ⟨fun _ => rfl, fun _ => rfl, fun _ => rfl, fun _ => rfl, fun _ => rfl, trivial⟩) rfl cells_sz (.inl rfl) ?_
  refine e_assign rfl rfl ?_
  refine e_nil ?_
  refine e_seq ?_
  refine e_plain ?_
  refine e_loadA (i := 2) und61 rfl siz61 rfl rfl (arrv_size _ _) rfl ⟨[], trivial⟩ ?_
  refine e_call rfl ent33 (dended_msg f l hf hb) rfl rfl ?_
  refine e_move rfl rfl ?_
  refine e_extract rfl rfl rfl ?_
  refine e_extract rfl rfl rfl ?_
  refine e_alloc 3 zer38 rfl fun r4 => ?_
  refine e_storeA (i := 3) siz38 rfl rfl (arr_size _ _ _) arr_one rfl (arr_sz _ _ _ _ _) (.inl rfl) ?_
  refine e_assign rfl rfl ?_
  refine e_nil ?_
  refine e_seq ?_
  refine e_plain ?_
  refine e_loadA (i := 3) und38 rfl siz38 rfl rfl (arr_size _ _ _) rfl ⟨[], trivial⟩ ?_
  refine e_storeA (i := 1) siz38 rfl rfl (arr_size _ _ _) arr_one rfl (arr_sz _ _ _ _ _) (.inl rfl) ?_
  refine e_nil ?_
  refine e_ret ?_
  exact ⟨_, rfl, .cell (i := 1) rfl rfl und38 rfl siz38 (arr_size _ _ _)⟩

end Go.Proofs.Ytoalabpbohkcjaa

/-
  Functions of three results; elements of slices that are structs; != of structs.
-/
namespace Go.Proofs.Ytoalabpbohkcjaa
open Go Go.RowKit
section
variable {P : Program} {G : Mem} {n : Nat}
theorem mapM3 {r r' r'' : ResultVar} (f : ResultVar → Sem Value) : Array.mapM f #[r, r', r''] = (do let v ← f r; let v' ← f r'; let v'' ← f r''; pure #[v, v', v'']) := by
  rw [Array.mapM_eq_mapM_toList]; simp
def End3 (P : Program) (fn : Func) (v v' v'' : Value) : Exit → Env → Mm → Prop
  | .normal, E, M | .ret, E, M => ∃ r r' r'', fn.results = #[r, r', r''] ∧ Res P E M r v ∧ Res P E M r' v' ∧ Res P E M r'' v''
  | _, _, _ => False
theorem fn3 {f : FuncId} {fn : Func} {c : Code} {args : Array Value} {v v' v'' : Value} (hf : P.funcs[f]? = some fn) (hb : fn.body = some c) (hn : fn.ntmps = n) (ha : args.size ≤ n) (E : Env) (hE : ∀ t v, lk E t = some v → args[t]? = some v)
    (h : SatE P G c n (End3 P fn v v' v'') E []) : Fn P G f args (.tuple #[v, v', v'']) :=
  fn_of hf hb (sat_mono (h _ [] ⟨by simp [hn]; omega, rfl, fun t v ht => by
    have := hE t v ht
    have hlt := (Array.getElem?_eq_some_iff.1 this).1
    rw [Array.getElem?_append_left hlt]; exact this⟩ (FitsM.nil _)) fun e a m ⟨E', M', h1, h0, h2⟩ => by
      have key : (∃ r r' r'', fn.results = #[r, r', r''] ∧ Res P E' M' r v ∧ Res P E' M' r' v' ∧ Res P E' M' r'' v'') → a.defers = [] ∧ ∀ w, MemIn m w → (results fn a.tmps).run P w = .ok (.tuple #[v, v', v'']) w := fun ⟨r, r', r'', hr, hR, hR', hR''⟩ => ⟨h1.defers, fun w hw => by
        have := res_run h1 h0 hw hR
        have t' := res_run h1 h0 hw hR'
        have t'' := res_run h1 h0 hw hR''
        rw [results_eq, hr, mapM3]
        simp [this, t', t'']⟩
      cases e <;> first | exact key h2 | exact h2.elim)
/-- A value, a slice that is made, a number. -/
def EndN3 (P : Program) (e : TypeId) (z k : Nat) (xs : List Value) (q u : Value) (fn : Func) : Exit → Env → Mm → Prop
  | .normal, E, M | .ret, E, M => ∃ r r' r'' v oz i, fn.results = #[r, r', r''] ∧ Res P E M r q ∧ Res P E M r' v ∧ Res P E M r'' u ∧ OwnS e z v k xs (Option.toList oz) ∧ lkM M i = oz
  | _, _, _ => False
theorem fxN3 {f : FuncId} {fn : Func} {c : Code} {args : Array Value} {e : TypeId} {z k : Nat} {xs : List Value} {q u : Value} (hf : P.funcs[f]? = some fn) (hb : fn.body = some c) (hn : fn.ntmps = n) (ha : args.size ≤ n) (E : Env) (hE : ∀ t v, lk E t = some v → args[t]? = some v)
    (h : SatE P G c n (EndN3 P e z k xs q u fn) E []) : Fx P G [] f args (fun v l1 nw => l1 = [] ∧ ∃ v', v = .tuple #[q, v', u] ∧ OwnS e z v' k xs nw) :=
  fx_of hf hb (sat_mono (h _ [] ⟨by simp [hn]; omega, rfl, fun t v ht => by
    have := hE t v ht
    have hlt := (Array.getElem?_eq_some_iff.1 this).1
    rw [Array.getElem?_append_left hlt]; exact this⟩ (FitsM.nil _)) fun e' a m ⟨E', M', h1, h0, h2⟩ => by
      have key : (∃ r r' r'' v oz i, fn.results = #[r, r', r''] ∧ Res P E' M' r q ∧ Res P E' M' r' v ∧ Res P E' M' r'' u ∧ OwnS e z v k xs (Option.toList oz) ∧ lkM M' i = oz) → a.defers = [] ∧ ∃ v l1 nw, (l1 = [] ∧ ∃ v', v = Value.tuple #[q, v', u] ∧ OwnS e z v' k xs nw) ∧ (nw.map (·.b)).Nodup ∧ (∀ x ∈ nw, x.b ∉ ([] : Mem).map (·.b)) ∧ (∀ x ∈ l1 ++ nw, x ∈ m) ∧ ∀ w, MemIn m w → (results fn a.tmps).run P w = .ok v w := fun ⟨r, r', r'', v, oz, i, hr, hR, hR', hR'', ho, hi⟩ =>
        ⟨h1.defers, .tuple #[q, v, u], [], oz.toList, ⟨rfl, v, rfl, ho⟩, own_nd ho, by simp, fun x hx => by
          have : oz = some x := by simpa using hx
          exact h0.has i x (hi.trans this), fun w hw => by
          have := res_run h1 h0 hw hR
          have t' := res_run h1 h0 hw hR'
          have t'' := res_run h1 h0 hw hR''
          rw [results_eq, hr, mapM3]
          simp [this, t', t'']⟩
      cases e' <;> first | exact key h2 | exact h2.elim)
end
section
variable {P : Program} {G : Mem} {R : Reg} {ops : Array Oper} {K : Act → Mem → Prop} {rest : List Oper} {a : Act} {m : Mem} {d : Option Tmp} {ty : TypeId} {pos : String} {aft : Array Edge}
variable {T T' : TypeId} {x y : Operand}
theorem Shows.cells {z n o : Nat} {c : Array Value} {xs : List Value} {j l : Nat} (hl : xs.length = n * z) (ho : o + n * z ≤ c.size) (hc : ∀ j u, xs[j]? = some u → c[o + j]? = some u) (hj : j + l ≤ xs.length) : c.extract (o + j) (o + j + l) = ((xs.drop j).take l).toArray := by
  apply Array.ext_getElem?
  intro i
  by_cases hi : i < l
  · have h1 : (xs.drop j)[i]? = xs[j + i]? := List.getElem?_drop
    have h2 : xs[j + i]? = some xs[j + i] := List.getElem?_eq_getElem (by omega)
    have h3 := hc (j + i) _ h2
    have hL : (c.extract (o + j) (o + j + l))[i]? = some xs[j + i] := by rw [Array.getElem?_extract, if_pos (by omega), show o + j + i = o + (j + i) by omega, h3]
    have hR : ((xs.drop j).take l).toArray[i]? = some xs[j + i] := by rw [List.getElem?_toArray, List.getElem?_take_of_lt hi, h1, h2]
    rw [hL, hR]
  · rw [Array.getElem?_eq_none (by simp; omega), Array.getElem?_eq_none (by simp; omega)]
theorem st_loadVS {td : TypeDesc} {v : Value} {B : Mem} {n j l z : Nat} {xs : List Value} (hB : Seen G R m B) (hT : P.underlying T = some td) (hn : rowLike td = true) (hs : (P.info? T).map (·.size) = some l) (hx : a.eval x = slAddr v j) (hv : Shows B z v n xs) (hl : 0 < l) (hj : j + l ≤ xs.length)
    (h : opsM P G R ops K rest (a.put d (.agg ((xs.drop j).take l).toArray)) m) : opsM P G R ops K (⟨d, .load T x, ty, pos, aft, none⟩ :: rest) a m :=
  .inr ⟨rfl, .agg ((xs.drop j).take l).toArray, fun w hG hm => .inl (by
    rcases hv with ⟨_, rfl, _⟩ | ⟨b, o, cap, c, t, rfl, _, hb, hlx, ho, hc⟩
    · simp at hj; omega
    · have hin := hB.rin hG hm hb
      have e := Shows.cells hlx ho hc hj
      have hsz : o + j + l ≤ c.size := by omega
      simp only [execOp, Instr.loadAt, hx, slAddr, Instr.sureAddr]
      simp [run_loadPart hin hT hn hs hsz, e]), h⟩
end
section
variable {P : Program} {G : Mem} {R : Reg} {ops : Array Oper} {n : Nat} {K : Env → Mm → Prop} {rest : List Oper} {E : Env} {M : Mm} {d : Nat} {ty : TypeId} {pos : String} {aft : Array Edge}
variable {T T' : TypeId} {x y : Operand}
theorem e_loadVS {td : TypeDesc} {v : Value} {B : Mem} {k j l z : Nat} {xs cs : List Value} (hv : Shows B z v k xs) (hB : SeenE G R M B) (hT : P.underlying T = some td) (hn : rowLike td = true) (hs : (P.info? T).map (·.size) = some l) (hx : rd E x = some (slAddr v j)) (hl : 0 < l) (hj : j + l ≤ xs.length) (hc : (xs.drop j).take l = cs) (hd : Nat.blt d n = true)
    (h : OpsE P G R ops n K rest ((d, .agg cs.toArray) :: E) M) : OpsE P G R ops n K (⟨some d, .load T x, ty, pos, aft, none⟩ :: rest) E M := fun _ _ ha hM => st_loadVS (hB.seen hM) hT hn hs (ha.rd hx) hv hl hj (by rw [hc]; exact h _ _ (ha.put hd _) hM)
theorem e_neSame {c : Array Value} (hs : Same P 10000 T (.agg c)) (hg : P.eqGuardType P.depth T = false) (hx : rd E x = some (.agg c)) (hy : rd E y = some (.agg c)) (hd : Nat.blt d n = true) (h : OpsE P G R ops n K rest ((d, .bool false) :: E) M) : OpsE P G R ops n K (⟨some d, .binOp .neq T x y T', ty, pos, aft, none⟩ :: rest) E M :=
  fun _ _ ha hM => st_bin (fun w => by
    rw [ha.rd hx, ha.rd hy]
    simp only [Sem.run_bind, run_eqGuard_agg w .neq T x y _ _ hg, Result.andThen_ok, run_neq_struct, hs w]; rfl) (h _ _ (ha.put hd _) hM)
theorem flatMap_len {α : Type} {C : α → List Value} {z : Nat} (hC : ∀ x, (C x).length = z) : ∀ rs : List α, (rs.flatMap C).length = rs.length * z
  | [] => by simp
  | r :: rs => by rw [List.flatMap_cons, List.length_append, hC, flatMap_len hC rs, List.length_cons, Nat.succ_mul]; omega
theorem flatMap_at {α : Type} {C : α → List Value} {z : Nat} (hC : ∀ x, (C x).length = z) : ∀ (rs : List α) (i : Nat) (h : i < rs.length), ((rs.flatMap C).drop (i * z)).take z = C rs[i]
  | r :: rs, 0, _ => by rw [List.flatMap_cons, Nat.zero_mul, List.drop_zero, ← hC r, List.take_left']; rfl; rfl
  | r :: rs, i + 1, h => by
    rw [List.flatMap_cons, Nat.succ_mul, Nat.add_comm, ← List.drop_drop, List.drop_left' (hC r)]
    exact flatMap_at hC rs i (by simpa using h)
theorem flatMap_take {α : Type} {C : α → List Value} {z : Nat} (hC : ∀ x, (C x).length = z) : ∀ (rs : List α) (i : Nat), (rs.flatMap C).take (i * z) = (rs.take i).flatMap C
  | [], i => by simp
  | r :: rs, 0 => by simp
  | r :: rs, i + 1 => by
    rw [List.flatMap_cons, List.take_succ_cons, List.flatMap_cons, Nat.succ_mul, Nat.add_comm, List.take_append, hC, Nat.add_sub_cancel_left, List.take_of_length_le (by rw [hC]; omega), flatMap_take hC rs i]
end
end Go.Proofs.Ytoalabpbohkcjaa

/-
  append of noughts to nil, cap, a part of a slice of one's own, slices of slices, a shown slice as an array, a number shifted down.
-/
namespace Go.Proofs.Ytoalabpbohkcjaa
open Go Go.RowKit

theorem OwnS.cut {e : TypeId} {n j : Nat} {v : Value} {xs : List Value} {l : Mem} (h : OwnS e 1 v n xs l) (hj : j ≤ n) : OwnS e 1 (slPart 1 v 0 j) j (xs.take j) l := by
  rcases h with ⟨rfl, rfl, rfl, rfl⟩ | ⟨r, cap, c, rfl, rfl, h1, h2, h3, h4, h5⟩
  · have : j = 0 := by omega
    subst this
    exact .inl ⟨rfl, rfl, rfl, rfl⟩
  · refine .inr ⟨r, cap, c, ?_, rfl, by omega, h2, h3, by simp [h4]; omega, ?_⟩
    · show Value.slice (some (if cap = 0 then ⟨r, 0, none⟩ else ⟨r, 0 + 0 * 1, none⟩)) (j - 0) (cap - 0) = _
      split <;> simp
    · rw [← h5, List.take_take]; congr 1; omega
theorem shows_nil (B : Mem) (z : Nat) : Shows B z nilS 0 [] := .inl ⟨rfl, rfl, none, 0, rfl, fun _ => rfl⟩

/-! ### Lists of slices -/
def ShowsL (B : Mem) (vs : List Value) (ls : List (List Nat)) : Prop := vs.length = ls.length ∧ ∀ i, i < ls.length → Shows B 1 (vs.getD i undef) (ls.getD i []).length ((ls.getD i []).map by8)
theorem showsL_nil (B : Mem) : ShowsL B [] [] := ⟨rfl, fun _ h => absurd h (Nat.not_lt_zero _)⟩
theorem showsL_cons {B : Mem} {v : Value} {l : List Nat} {vs : List Value} {ls : List (List Nat)} (h : Shows B 1 v l.length (l.map by8)) (hs : ShowsL B vs ls) : ShowsL B (v :: vs) (l :: ls) :=
  ⟨by simp [hs.1], fun i hi => by
    cases i with
    | zero => exact h
    | succ i => exact hs.2 i (by simpa using hi)⟩
theorem get_getD {vs : List Value} {i : Nat} (h : i < vs.length) : vs[i]? = some (vs.getD i undef) := by
  rw [List.getD_eq_getElem?_getD, List.getElem?_eq_getElem h]; rfl
/-- The first i lists, one behind the other. -/
def upto (ls : List (List Nat)) (i : Nat) : List Nat := (ls.take i).flatten
theorem upto_zero (ls : List (List Nat)) : upto ls 0 = [] := rfl
theorem upto_next {ls : List (List Nat)} {i : Nat} (h : i < ls.length) : upto ls (i + 1) = upto ls i ++ ls.getD i [] := by
  unfold upto
  rw [List.take_add_one, List.getD_eq_getElem?_getD, List.getElem?_eq_getElem h, List.flatten_append]
  exact congrArg _ (List.append_nil _)
theorem upto_all (ls : List (List Nat)) : upto ls ls.length = ls.flatten := by simp [upto]
theorem upto_le (ls : List (List Nat)) (i : Nat) : (upto ls i).length ≤ ls.flatten.length := by
  unfold upto
  have h : ls.flatten = (ls.take i).flatten ++ (ls.drop i).flatten := by rw [← List.flatten_append, List.take_append_drop]
  rw [h, List.length_append]; omega
theorem fill_ones : ∀ (vs : List Value) (k : Nat) (Z : Array Value), (∀ v ∈ vs, v.cells = #[v]) → k + vs.length = Z.size → Instr.fill (fun i => some (i * 1, 1)) Z ((vs.zipIdx k).map fun p => (p.2, p.1)) = some (Z.toList.take k ++ vs).toArray
  | [], k, Z, _, hk => by
    have : Z.toList.take k = Z.toList := List.take_of_length_le (by simp at hk; simp; omega)
    simp [Instr.fill, this]
  | v :: vs, k, Z, hv, hk => by
    have h1 := hv v (by simp)
    have ih := fill_ones vs (k + 1) (Z.setIfInBounds k v) (fun u hu => hv u (by simp [hu])) (by simp at hk ⊢; omega)
    have hkz : k < Z.size := by simp at hk; omega
    have e : (Z.setIfInBounds k v).toList.take (k + 1) ++ vs = Z.toList.take k ++ v :: vs := by
      rw [Array.toList_setIfInBounds, List.take_add_one, List.take_set_of_le (Nat.le_refl k), List.getElem?_set_self (by simpa using hkz)]
      simp
    rw [e] at ih
    have hsz : v.cells.size = 1 := by rw [h1]; rfl
    have hf : v.cells.zipIdx.foldl (fun cs (c, j) => cs.setIfInBounds (k * 1 + j) c) Z = Z.setIfInBounds k v := by
      rw [h1]; simp
    have hc : ¬ (v.cells.size ≠ 1 || k * 1 + v.cells.size > Z.size) = true := by rw [hsz]; simp; omega
    simp only [List.zipIdx_cons, List.map_cons, Instr.fill]
    rw [if_neg hc, hf]
    exact ih
theorem zrs_at {n j : Nat} (h : j < n) : 0 = (zrs n).getD j 0 := by
  simp [zrs, List.getD_eq_getElem?_getD, h]

section
variable {P : Program} {G : Mem} {R : Reg} {ops : Array Oper} {K : Act → Mem → Prop} {rest : List Oper} {a : Act} {m : Mem} {d : Option Tmp} {ty : TypeId} {pos : String} {aft : Array Edge}
variable {T T' : TypeId} {x y : Operand}
theorem st_appendZ {e : TypeId} {k bytes : Nat} {zv : Value} {kq kn : IntKind} (hT : P.underlying T = some (.slice e)) (hT' : P.underlying T' = some (.int kn)) (hs : (P.info? e).map (·.size) = some 1) (hb : (P.info? e).map (·.bytes) = some bytes) (hz : (P.info? e).bind (·.zero) = some zv) (hzs : zv.cells.size = 1)
    (hx : a.eval x = nilS) (hy : a.eval y = .int kq (k : Int)) (h0 : 0 < k) (h63 : k ≤ maxLen) (hbytes : k * bytes ≤ 140737488355328)
    (h : ∀ v' l' xs, OwnS e 1 v' k xs l' → FreshM m l' → opsM P G R ops K rest (a.put d v') (m ++ l')) :
    opsM P G R ops K (⟨d, .call ⟨.builtin .append, #[x, y], #[T, T']⟩, ty, pos, aft, none⟩ :: rest) a m := by
  refine .inr ⟨rfl, ?_⟩
  show coreM _ _ _ _ _ _ _ 5
  refine ⟨[], m, fun v' r1 nw => r1 = [] ∧ ∃ xs, OwnS e 1 v' k xs nw, by simp, ?_, ?_, ?_, ?_⟩
  · obtain ⟨r, hr⟩ := fresh_of m
    exact ⟨.slice (some ⟨r, 0, none⟩) k k, [], [⟨r, (List.replicate k zv).toArray, e⟩], ⟨rfl, List.replicate k zv, .inr ⟨r, k, _, rfl, rfl, Nat.le_refl _, h63, by simp, by simp, by simp⟩⟩, by simp, by simpa using hr⟩
  · rintro v' r1 nw ⟨rfl, _⟩; rfl
  · intro w hG hm _
    have hrun : ∀ v' w', (Builtin.append_ #[T, T'] ty #[nilS, .int kq (k : Int)]).run P w = .ok v' w' → (execOp a.eval ⟨d, .call ⟨.builtin .append, #[x, y], #[T, T']⟩, ty, pos, aft, none⟩).run P w = .ok (.value v') w' := fun v' w' hr => by
      simp only [execOp, resolve, invoke, builtin, Sem.run_bind, Sem.run_pure, Result.andThen_ok, List.map_toArray, List.map_cons, List.map_nil, hx, hy, hr]
    left
    cases hi : P.info? e with
    | none => simp [hi] at hs
    | some i =>
      have hsz : i.size = 1 := by simpa [hi] using hs
      have hby : i.bytes = bytes := by simpa [hi] using hb
      have hz' : i.zero = some zv := by simpa [hi] using hz
      have h64 : k ≤ 9223372036854775807 := by simp only [maxLen] at h63; omega
      have hr := Lib.run_append_nil_zeros (P := P) w T T' ty e i zv kq kn hT hT' hi hz' k h0 (by omega) (by omega) (by rw [hby]; omega)
      obtain ⟨c', hc'⟩ : ∃ c', c' = Builtin.zeroCells zv.cells k ++ Builtin.zeroCells zv.cells (grownCap w k 0 e - k) := ⟨_, rfl⟩
      rw [← hc'] at hr
      have hge := grownCap_ge w k 0 e
      have hcs : c'.size = grownCap w k 0 e * 1 := by
        rw [hc', Array.size_append, size_zeroCells, size_zeroCells, hzs]; omega
      refine ⟨_, [], _, _, hrun _ _ hr, ⟨rfl, c'.toList.take (k * 1), .inr ⟨_, _, c', rfl, rfl, hge, grownCap_le_maxLen w k 0 e h63, hcs, ?_, rfl⟩⟩, post_drew w c' e [] (by simp [MemIn])⟩
      rw [List.length_take, Array.length_toList, hcs]; omega
  · rintro v' r1 nw ⟨rfl, xs, ho⟩ hfr
    simpa using h v' nw xs ho hfr
theorem st_capSl {len cap : Nat} {e : TypeId} {q : Option Addr} (hR : callOk R = true) (hT : P.underlying T = some (.slice e)) (hx : a.eval x = .slice q len cap) (h : opsM P G R ops K rest (a.put d (ii cap)) m) :
    opsM P G R ops K (⟨d, .call ⟨.builtin .cap, #[x], #[T]⟩, ty, pos, aft, none⟩ :: rest) a m :=
  st_value rfl hR (fun w => by
    have : (Builtin.cap_ #[T] ty #[.slice q len cap]).run P w = .ok (ii cap) w := by simp [Builtin.cap_, run_underlying hT, goInt]
    simp only [execOp, resolve, invoke, builtin, Sem.run_bind, Sem.run_pure, Result.andThen_ok, List.map_toArray, List.map_cons, List.map_nil, hx, this]) h
theorem st_toArrV {N n : Nat} {e : TypeId} {v : Value} {B : Mem} {z : Nat} {xs : List Value} (hT : P.underlying T = some (.array N e)) (hx : a.eval x = v) (hv : Shows B z v n xs) (h0 : 0 < N) (hl : N ≤ n)
    (hK : opsM P G R ops K rest (a.put d (slAddr v 0)) m) : opsM P G R ops K (⟨d, .sliceToArrayPointer T x, ty, pos, aft, none⟩ :: rest) a m := by
  rcases hv with ⟨h1, _⟩ | ⟨b, o, cap, c, t, rfl, _⟩
  · omega
  · exact st_toArr hT hx hl hK
theorem st_shr_i {k' : IntKind} {p s : Nat} (hx : a.eval x = ii p) (hy : a.eval y = .int k' (s : Int)) (hs : s ≤ 64) (h : opsM P G R ops K rest (a.put d (ii (p / 2 ^ s))) m) :
    opsM P G R ops K (⟨d, .binOp .shr T x y T', ty, pos, aft, none⟩ :: rest) a m :=
  st_bin (fun w => by
    have h0 : ¬ ((s : Int) < 0) := by omega
    have h1 : min ((s : Int).toNat) (IntKind.i64.bits) = s := by simp [IntKind.bits]; omega
    simp only [hx, hy, eqGuard, binOp, Op.shift, h0, if_false, h1]
    have e : (p : Int).fdiv (2 ^ s) = ((p / 2 ^ s : Nat) : Int) := by
      rw [Int.fdiv_eq_ediv_of_nonneg _ (by exact Int.le_of_lt (Int.pow_pos (by decide)))]
      simp
    rw [e]
    simp) h
end
section
variable {P : Program} {G : Mem} {R : Reg} {ops : Array Oper} {n : Nat} {K : Env → Mm → Prop} {rest : List Oper} {E : Env} {M : Mm} {d : Nat} {ty : TypeId} {pos : String} {aft : Array Edge}
variable {T T' : TypeId} {x y : Operand}
theorem e_appendZ (i : Nat) {e : TypeId} {k bytes : Nat} {zv : Value} {kq kn : IntKind} (hT : P.underlying T = some (.slice e)) (hT' : P.underlying T' = some (.int kn)) (hs : (P.info? e).map (·.size) = some 1) (hb : (P.info? e).map (·.bytes) = some bytes) (hz : (P.info? e).bind (·.zero) = some zv) (hzs : zv.cells.size = 1)
    (hx : rd E x = some nilS) (hy : rd E y = some (.int kq (k : Int))) (h0 : 0 < k) (h63 : k ≤ maxLen) (hbytes : k * bytes ≤ 140737488355328) (hd : Nat.blt d n = true)
    (h : ∀ v' (oz' : Option Blk) xs, OwnS e 1 v' k xs oz'.toList → OpsE P G R ops n K rest ((d, v') :: E) ((i, oz') :: M)) : OpsE P G R ops n K (⟨some d, .call ⟨.builtin .append, #[x, y], #[T, T']⟩, ty, pos, aft, none⟩ :: rest) E M :=
  fun _ m ha hM => st_appendZ hT hT' hs hb hz hzs (ha.rd hx) (ha.rd hy) h0 h63 hbytes fun v' l' xs ho hf => by
    obtain ⟨oz', rfl⟩ := own_opt ho
    exact h v' oz' xs ho _ _ (ha.put hd _) (by simpa using hM.fresh (l0 := []) (lr := m) i (by simp) hf)
theorem e_capSl {len cap : Nat} {e : TypeId} {q : Option Addr} (hT : P.underlying T = some (.slice e)) (hx : rd E x = some (.slice q len cap)) (hd : Nat.blt d n = true) (hR : callOk R = true) (h : OpsE P G R ops n K rest ((d, ii cap) :: E) M) :
    OpsE P G R ops n K (⟨some d, .call ⟨.builtin .cap, #[x], #[T]⟩, ty, pos, aft, none⟩ :: rest) E M := fun _ _ ha hM => st_capSl hR hT (ha.rd hx) (h _ _ (ha.put hd _) hM)
theorem e_toArrV {N k : Nat} {e : TypeId} {v : Value} {B : Mem} {z : Nat} {xs : List Value} (hv : Shows B z v k xs) (hT : P.underlying T = some (.array N e)) (hx : rd E x = some v) (h0 : 0 < N) (hl : N ≤ k) (hd : Nat.blt d n = true)
    (h : OpsE P G R ops n K rest ((d, slAddr v 0) :: E) M) : OpsE P G R ops n K (⟨some d, .sliceToArrayPointer T x, ty, pos, aft, none⟩ :: rest) E M :=
  fun _ _ ha hM => st_toArrV hT (ha.rd hx) hv h0 hl (h _ _ (ha.put hd _) hM)
theorem e_shr_i {k' : IntKind} {p s : Nat} (hx : rd E x = some (ii p)) (hy : rd E y = some (.int k' (s : Int))) (hd : Nat.blt d n = true) (hs : s ≤ 64) (h : OpsE P G R ops n K rest ((d, ii (p / 2 ^ s)) :: E) M) :
    OpsE P G R ops n K (⟨some d, .binOp .shr T x y T', ty, pos, aft, none⟩ :: rest) E M := fun _ _ ha hM => st_shr_i (ha.rd hx) (ha.rd hy) hs (h _ _ (ha.put hd _) hM)
end
end Go.Proofs.Ytoalabpbohkcjaa

/-
  Walks, written by a program of ours off the loaded functions.
-/
namespace Go.Proofs.Ytoalabpbohkcjaa
open Go Go.RowKit



variable {G : Mem}

set_option maxHeartbeats 400000 in
theorem grow_zero (n : Nat) (hn : n = 0) : Fx Try.prog G [] 51 #[nilS, ii n] (fun v l1 nw => l1 = [] ∧ ∃ v', v = v' ∧ OwnS 5 1 v' 0 [] nw) := by
  refine fxN (n := 27) Try.func51 rfl rfl (by simp) (argE [nilS, ii n] 0) (argE_ok _) ?_
  refine e_seq ?_
  refine e_plain ?_
  refine e_assign rfl rfl ?_
  refine e_nil ?_
  refine e_seq ?_
  refine e_seq ?_
  refine e_plain ?_
  refine e_move rfl rfl ?_
  refine e_lt rfl rfl rfl ?_
  refine e_as (congrArg Value.bool (decide_eq_false (by omega))) ?_
  refine e_nil ?_
  refine e_cond rfl ?_ ?_
  · intro hc0
    cases hc0
  · intro hc0
    refine e_skip ?_
    refine e_seq ?_
    refine e_seq ?_
    refine e_plain ?_
    refine e_move rfl rfl ?_
    refine e_move rfl rfl ?_
    refine e_capSl und24 rfl rfl rfl ?_
    refine e_move rfl rfl ?_
    refine e_lenV (shows_nil [] 1) und24 rfl rfl rfl ?_
    refine e_sub_in rfl rfl rfl (by omega) (by omega) ?_
    refine e_as (show _ = ii 0 from rfl) ?_
    refine e_sub_in rfl rfl rfl (by omega) (by omega) ?_
    refine e_as (show _ = ii n from rfl) ?_
    refine e_assign rfl rfl ?_
    refine e_nil ?_
    refine e_seq ?_
    refine e_plain ?_
    refine e_move rfl rfl ?_
    refine e_gt rfl rfl rfl ?_
    refine e_as (congrArg Value.bool (decide_eq_false (by omega))) ?_
    refine e_nil ?_
    refine e_cond rfl ?_ ?_
    · intro hc1
      cases hc1
    · intro hc1
      refine e_skip ?_
      refine e_seq ?_
      refine e_plain ?_
      refine e_move rfl rfl ?_
      refine e_assign rfl rfl ?_
      refine e_nil ?_
      refine e_ret ?_
      exact ⟨_, _, _, 99, rfl, .tmp rfl, (own_nil _ _), rfl⟩

set_option maxHeartbeats 400000 in
theorem grow_some (n : Nat) (hn : 0 < n) (hm : n ≤ 1099511627776) : Fx Try.prog G [] 51 #[nilS, ii n] (fun v l1 nw => l1 = [] ∧ ∃ v', v = v' ∧ OwnS 5 1 v' 0 [] nw) := by
  refine fxN (n := 27) Try.func51 rfl rfl (by simp) (argE [nilS, ii n] 0) (argE_ok _) ?_
  refine e_seq ?_
  refine e_plain ?_
  refine e_assign rfl rfl ?_
  refine e_nil ?_
  refine e_seq ?_
  refine e_seq ?_
  refine e_plain ?_
  refine e_move rfl rfl ?_
  refine e_lt rfl rfl rfl ?_
  refine e_as (congrArg Value.bool (decide_eq_false (by omega))) ?_
  refine e_nil ?_
  refine e_cond rfl ?_ ?_
  · intro hc0
    cases hc0
  · intro hc0
    refine e_skip ?_
    refine e_seq ?_
    refine e_seq ?_
    refine e_plain ?_
    refine e_move rfl rfl ?_
    refine e_move rfl rfl ?_
    refine e_capSl und24 rfl rfl rfl ?_
    refine e_move rfl rfl ?_
    refine e_lenV (shows_nil [] 1) und24 rfl rfl rfl ?_
    refine e_sub_in rfl rfl rfl (by omega) (by omega) ?_
    refine e_as (show _ = ii 0 from rfl) ?_
    refine e_sub_in rfl rfl rfl (by omega) (by omega) ?_
    refine e_as (show _ = ii n from rfl) ?_
    refine e_assign rfl rfl ?_
    refine e_nil ?_
    refine e_seq ?_
    refine e_plain ?_
    refine e_move rfl rfl ?_
    refine e_gt rfl rfl rfl ?_
    refine e_as (congrArg Value.bool (decide_eq_true (by omega))) ?_
    refine e_nil ?_
    refine e_cond rfl ?_ ?_
    · intro hc1
      refine e_plain ?_
      refine e_move rfl rfl ?_
      refine e_move rfl rfl ?_
      refine e_capSl und24 rfl rfl rfl ?_
      refine e_sliceV 0 0 (shows_nil [] 1) und24 siz5 rfl rfl rfl rfl ⟨_, rfl⟩ (by omega) (by omega) rfl ?_
      refine e_move rfl rfl ?_
      refine e_appendZ 0 und24 und3 siz5 byt5 zer5 rfl rfl rfl (by omega) (by simp only [maxLen]; omega) (by omega) rfl fun v3_1 oz3_1 xs3_1 ho3_1 => ?_
      refine e_move rfl rfl ?_
      refine e_lenV (shows_nil [] 1) und24 rfl rfl rfl ?_
      refine e_sliceV 0 0 ho3_1.shows und24 siz5 rfl rfl rfl rfl ⟨_, rfl⟩ (by omega) (by omega) rfl ?_
      refine e_assign rfl rfl ?_
      refine e_nil ?_
      refine e_seq ?_
      refine e_plain ?_
      refine e_move rfl rfl ?_
      refine e_assign rfl rfl ?_
      refine e_nil ?_
      refine e_ret ?_
      exact ⟨_, _, _, 0, rfl, .tmp rfl, (own_fix (OwnS.cut ho3_1 (Nat.zero_le _)) rfl rfl), rfl⟩
    · intro hc1
      cases hc1

end Go.Proofs.Ytoalabpbohkcjaa

/-
  What the developers' seals reckon, in plain numbers.
-/
namespace Go.Proofs.Ytoalabpbohkcjaa
open Go Go.RowKit

theorem low_at (n : Nat) {i : Nat} (h : i < 8) : n / 2 ^ (8 * i) % 256 = (lowl n 8).getD i 0 := by
  rw [Nat.pow_mul]
  simp [lowl, List.getD_eq_getElem?_getD, h]
theorem summed_eq (ad b : List Nat) : [ad, zrs ((16 - ad.length % 16) % 16), b, zrs ((16 - b.length % 16) % 16), lowl ad.length 8, lowl b.length 8].flatten = macIn ad b := by
  simp [macIn, pad16]
/-- Do all bytes agree? -/
def agr (f g : Nat → Nat) : Nat → Nat
  | 0 => 0
  | i + 1 => (agr f g i ||| ((f i ^^^ g i) % 256)) % 256
theorem xor_zero_iff {a b : Nat} : a ^^^ b = 0 ↔ a = b := by
  constructor
  · intro h
    have : a ^^^ b ^^^ b = 0 ^^^ b := by rw [h]
    rwa [Nat.xor_assoc, Nat.xor_self, Nat.xor_zero, Nat.zero_xor] at this
  · rintro rfl; exact Nat.xor_self a
theorem agr_iff {f g : Nat → Nat} (hf : ∀ j, j < 16 → f j < 256) (hg : ∀ j, j < 16 → g j < 256) : ∀ i, i ≤ 16 → agr f g i < 256 ∧ (agr f g i = 0 ↔ ∀ j, j < i → f j = g j)
  | 0, _ => ⟨by unfold agr; decide, by simp [agr]⟩
  | i + 1, hi => by
    have ih := agr_iff hf hg i (by omega)
    have hx : f i ^^^ g i < 2 ^ 8 := Nat.xor_lt_two_pow (hf i (by omega)) (hg i (by omega))
    have ho : agr f g i ||| (f i ^^^ g i) < 2 ^ 8 := Nat.or_lt_two_pow ih.1 hx
    refine ⟨Nat.mod_lt _ (by decide), ?_⟩
    unfold agr
    rw [Nat.mod_eq_of_lt (a := f i ^^^ g i) (by omega), Nat.mod_eq_of_lt (by omega), Nat.or_eq_zero_iff, ih.2, xor_zero_iff]
    constructor
    · rintro ⟨h1, h2⟩ j hj
      by_cases e : j = i
      · rw [e]; exact h2
      · exact h1 j (by omega)
    · exact fun h => ⟨fun j hj => h j (by omega), h i (by omega)⟩
theorem seal_cells (k nn : Nat → Nat) (ad tx : List Nat) : (strl k 1 nn tx 0).map by8 ++ ((List.range 16).map fun j => ptg (okey k nn) (macIn ad (strl k 1 nn tx 0)) (0 + j)).map by8 = (sealL k nn ad tx).map by8 := by
  unfold sealL tagl
  rw [List.map_append]
  congr 3
  funext j
  rw [Nat.zero_add]
theorem last_cells {l : List Nat} (h : l.length = 16) : Value.agg (((l.map by8).drop 0).take 16).toArray = Value.agg (arr .u8 16 (fun j => l.getD j 0)) := by
  congr 1
  apply Array.ext
  · simp [arr, h]
  · intro i h1 h2
    have hi : i < l.length := by simp at h1; omega
    simp [arr, List.getD_eq_getElem?_getD, hi]
theorem agr_list {d : List Nat} {f : Nat → Nat} (hl : d.length = 16) (hd : ∀ x ∈ d, x < 256) (hf : ∀ j, j < 16 → f j < 256) : agr (fun j => d.getD j 0) f 16 = 0 ↔ (List.range 16).map f = d := by
  rw [(agr_iff (fun j hj => by
    rw [List.getD_eq_getElem?_getD, List.getElem?_eq_getElem (by omega)]
    exact hd _ (List.getElem_mem _)) hf 16 (Nat.le_refl _)).2]
  constructor
  · intro h
    apply List.ext_getElem
    · simp [hl]
    · intro i h1 h2
      have hi := h i (by simpa using h1)
      simp only [List.getD_eq_getElem?_getD, List.getElem?_eq_getElem h2, Option.getD_some] at hi
      simp [hi]
  · intro h j hj
    rw [← h]
    simp [List.getD_eq_getElem?_getD, hj]
theorem opens_iff (k nn : Nat → Nat) {ad tx : List Nat} (h16 : 16 ≤ tx.length) (htb : ∀ x ∈ tx, x < 256) : agr (fun j => (tx.drop (tx.length - 16)).getD j 0) (ptg (okey k nn) (macIn ad (tx.take (tx.length - 16)))) 16 = 0 ↔ opensL k nn ad tx :=
  agr_list (by rw [List.length_drop]; omega) (fun x hx => htb x (List.mem_of_mem_drop hx)) (fun j _ => ptg_lt _ _ j)

end Go.Proofs.Ytoalabpbohkcjaa

/-
  Walks, written by a program of ours off the loaded functions.
-/
namespace Go.Proofs.Ytoalabpbohkcjaa
open Go Go.RowKit


theorem grow_fn {G : Mem} (n : Nat) (hm : n ≤ 1099511627776) : Fx Try.prog G [] 51 #[nilS, ii n] (fun v l1 nw => l1 = [] ∧ ∃ v', v = v' ∧ OwnS 5 1 v' 0 [] nw) := by
  by_cases h : n = 0
  · exact grow_zero n h
  · exact grow_some n (by omega) hm

theorem ent51 : enters Try.prog 51 = true := by kernel_rfl
theorem siz24 : (Try.prog.info? 24).map (·.size) = some 1 := by kernel_rfl
theorem und82 : Try.prog.underlying 82 = some (.slice 24) := by kernel_rfl

variable {G : Mem}

set_option maxHeartbeats 2000000 in
theorem concat_fn (v : Value) (vs : List Value) (ls : List (List Nat)) (hv : Shows G 1 v vs.length vs) (hL : ShowsL G vs ls) (hn : vs.length ≤ 1099511627776) (hm : ls.flatten.length ≤ 1099511627776) : Fx Try.prog G [] 34 #[v] (fun v l1 nw => l1 = [] ∧ ∃ v', v = v' ∧ OwnS 5 1 v' ls.flatten.length (ls.flatten.map by8) nw) := by
  have hvl := hL.1
  have hup := upto_le ls
  refine fxN (n := 36) Try.func34 rfl rfl (by simp) (argE [v] 0) (argE_ok _) ?_
  refine e_seq ?_
  refine e_plain ?_
  refine e_assign rfl rfl ?_
  refine e_nil ?_
  refine e_seq ?_
  refine e_plain ?_
  refine e_assign rfl rfl ?_
  refine e_nil ?_
  refine e_seq ?_
  refine e_seq ?_
  refine e_plain ?_
  refine e_move rfl rfl ?_
  refine e_lenV hv und82 rfl rfl rfl ?_
  refine e_move rfl rfl ?_
  refine e_nil ?_
  refine e_block ?_
  refine e_loopK [(0, _), (2, _), (9, _), (10, _)] [] (fun kk E m => ∃ (i : Nat) (s : Nat), kk = vs.length - i ∧ E = [(3, ii s), (11, ii i)] ∧ m = [] ∧ (i ≤ vs.length) ∧ (s = (upto ls i).length)) [(3, ii 0), (11, ii 0)] [] (vs.length - 0) ⟨rfl, rfl, rfl, rfl, rfl, rfl, trivial⟩ trivial ⟨0, 0, rfl, rfl, rfl, by omega, rfl⟩ ?_
  rintro kk E m ⟨i, s, rfl, rfl, rfl, hf0_0, hf0_1⟩
  simp only [catE, catL]
  have hs1 := hup (i + 1)
  have hs2 : i < ls.length → (upto ls (i + 1)).length = (upto ls i).length + (ls.getD i []).length := fun h => by rw [upto_next h, List.length_append]
  refine e_seq ?_
  refine e_plain ?_
  refine e_lt rfl rfl rfl ?_
  refine e_nil ?_
  refine e_seq ?_
  refine e_cond rfl ?_ ?_
  · intro hc0
    have hc0 : i < vs.length := by have := of_decide_eq_true hc0; omega
    refine e_skip ?_
    refine e_seq ?_
    refine e_block ?_
    refine e_seq ?_
    refine e_plain ?_
    refine e_atV hv und82 siz24 rfl rfl (by omega) rfl ?_
    refine e_as (congrArg (slAddr _) (Nat.mul_one _)) ?_
    refine e_loadV hv seenG und24 rfl rfl (get_getD (by omega)) rfl ?_
    refine e_assign rfl rfl ?_
    refine e_nil ?_
    refine e_seq ?_
    refine e_plain ?_
    refine e_move rfl rfl ?_
    refine e_move rfl rfl ?_
    refine e_lenV (hL.2 i (by omega)) und24 rfl rfl rfl ?_
    refine e_add_i rfl rfl rfl (by have := hs2 (by omega); omega) ?_
    refine e_assign rfl rfl ?_
    refine e_nil ?_
    refine e_seq ?_
    refine e_plain ?_
    refine e_move rfl rfl ?_
    refine e_lt rfl rfl rfl ?_
    refine e_as (congrArg Value.bool (decide_eq_false (by omega))) ?_
    refine e_nil ?_
    refine e_cond rfl ?_ ?_
    · intro hc1
      cases hc1
    · intro hc1
      refine e_skip ?_
      refine e_plain ?_
      refine e_add_i (q := 1) rfl rfl rfl (by omega) ?_
      refine e_move rfl rfl ?_
      refine e_nil ?_
      refine ⟨_, [(3, ii _), (11, ii (i + 1))], [], ?_, ⟨rfl, rfl, rfl, rfl, rfl, rfl, trivial⟩, trivial, i + 1, _, rfl, rfl, rfl, by omega, (by rw [upto_next (by omega), List.length_append, hf0_1])⟩
      omega
  · intro hc0
    have hc0 := of_decide_eq_false hc0
    have hz0 : i = vs.length := by omega
    refine e_exit ?_
    refine e_seq ?_
    refine e_plainR ⟨[], 4, []⟩ ?_
    refine e_move rfl rfl ?_
    refine e_callN 0 (fun v => v) rfl rfl ent51 seenG (grow_fn s (by have := hup i; omega)) (by decide) rfl rfl rfl fun v2_1 oz2_1 ho2_1 => ?_
    refine e_assign rfl rfl ?_
    refine e_nil ?_
    refine e_seq ?_
    refine e_seq ?_
    refine e_plain ?_
    refine e_move rfl rfl ?_
    refine e_lenV hv und82 rfl rfl rfl ?_
    refine e_move rfl rfl ?_
    refine e_nil ?_
    refine e_block ?_
    refine e_loopK [(2, _), (25, _), (26, _)] [] (fun kk E m => ∃ (j : Nat) (w : Value) (oz : Option Blk), kk = vs.length - j ∧ E = [(6, w), (27, ii j)] ∧ m = [(0, oz)] ∧ (j ≤ vs.length) ∧ (OwnS 5 1 w (upto ls j).length ((upto ls j).map by8) (Option.toList oz))) [(6, v2_1), (27, ii 0)] [(0, oz2_1)] (vs.length - 0) ⟨rfl, rfl, rfl, rfl, rfl, trivial⟩ ⟨rfl, trivial⟩ ⟨0, v2_1, oz2_1, rfl, rfl, rfl, by omega, ho2_1⟩ ?_
    rintro kk E m ⟨j, w, oz, rfl, rfl, rfl, hf1_0, hf1_1⟩
    simp only [catE, catL]
    have hs3 := hup (j + 1)
    have hs4 : j < ls.length → (upto ls (j + 1)).length = (upto ls j).length + (ls.getD j []).length := fun h => by rw [upto_next h, List.length_append]
    refine e_seq ?_
    refine e_plain ?_
    refine e_lt rfl rfl rfl ?_
    refine e_nil ?_
    refine e_seq ?_
    refine e_cond rfl ?_ ?_
    · intro hc2
      have hc2 : j < vs.length := by have := of_decide_eq_true hc2; omega
      refine e_skip ?_
      refine e_seq ?_
      refine e_block ?_
      refine e_seq ?_
      refine e_plain ?_
      refine e_atV hv und82 siz24 rfl rfl (by omega) rfl ?_
      refine e_as (congrArg (slAddr _) (Nat.mul_one _)) ?_
      refine e_loadV hv seenG und24 rfl rfl (get_getD (by omega)) rfl ?_
      refine e_assign rfl rfl ?_
      refine e_nil ?_
      refine e_plain ?_
      refine e_move rfl rfl ?_
      refine e_move rfl rfl ?_
      refine e_append 0 hf1_1 (hL.2 j (by omega)) rfl seenG und24 siz5 byt5 zer5 (by rfl) rfl rfl by8_one (by have := hs4 (by omega); simp only [maxLen]; omega) (by have := hs4 (by omega); omega) rfl fun v3_2 oz3_2 ho3_2 => ?_
      refine e_assign rfl rfl ?_
      refine e_nil ?_
      refine e_plain ?_
      refine e_add_i (q := 1) rfl rfl rfl (by omega) ?_
      refine e_move rfl rfl ?_
      refine e_nil ?_
      refine ⟨_, [(6, _), (27, ii (j + 1))], [(0, _)], ?_, ⟨rfl, rfl, rfl, rfl, rfl, trivial⟩, ⟨rfl, trivial⟩, j + 1, _, _, rfl, rfl, rfl, by omega, (own_fix ho3_2 (by rw [upto_next (by omega), List.length_append]) (by rw [upto_next (by omega), List.map_append]))⟩
      omega
    · intro hc2
      have hc2 := of_decide_eq_false hc2
      have hz1 : j = vs.length := by omega
      refine e_exit ?_
      refine e_seq ?_
      refine e_plain ?_
      refine e_move rfl rfl ?_
      refine e_assign rfl rfl ?_
      refine e_nil ?_
      refine e_ret ?_
      exact ⟨_, _, _, 0, rfl, .tmp rfl, (own_fix hf1_1 (by rw [hz1, hvl, upto_all]) (by rw [hz1, hvl, upto_all])), rfl⟩

set_option maxHeartbeats 400000 in
theorem dfill_fn (n : Nat) : Fx Try.prog G [] 35 #[ii n] (fun v l1 nw => l1 = [] ∧ ∃ v', v = v' ∧ OwnS 5 1 v' ((16 - n % 16) % 16) ((zrs ((16 - n % 16) % 16)).map by8) nw) := by
  refine fxN (n := 8) Try.func35 rfl rfl (by simp) (argE [ii n] 0) (argE_ok _) ?_
  refine e_seq ?_
  refine e_plain ?_
  refine e_assign rfl rfl ?_
  refine e_nil ?_
  refine e_seq ?_
  refine e_plain ?_
  refine e_move rfl rfl ?_
  refine e_rem_i (q := 16) rfl rfl rfl (by omega) ?_
  refine e_sub_in (p := 16) rfl rfl rfl (by omega) (by omega) ?_
  refine e_rem_i (q := 16) rfl rfl rfl (by omega) ?_
  refine e_make 0 und24 siz5 byt5 zer5 rfl rfl rfl (by omega) (by omega) rfl fun r1 => ?_
  refine e_assign rfl rfl ?_
  refine e_nil ?_
  refine e_ret ?_
  exact ⟨_, _, _, 0, rfl, .tmp rfl, (own_made (zrs_len _) (by simp only [maxLen]; omega) (fun j hj => zrs_at hj)), rfl⟩

set_option maxHeartbeats 2000000 in
theorem deight_fn (n : Nat) : Fx Try.prog G [] 36 #[ii n] (fun v l1 nw => l1 = [] ∧ ∃ v', v = v' ∧ OwnS 5 1 v' 8 ((lowl n 8).map by8) nw) := by
  refine fxN (n := 21) Try.func36 rfl rfl (by simp) (argE [ii n] 0) (argE_ok _) ?_
  refine e_seq ?_
  refine e_plain ?_
  refine e_assign rfl rfl ?_
  refine e_nil ?_
  refine e_seq ?_
  refine e_plain ?_
  refine e_make 0 (l := 8) und24 siz5 byt5 zer5 rfl rfl rfl (by omega) (by omega) rfl fun r1 => ?_
  refine e_assign rfl rfl ?_
  refine e_nil ?_
  refine e_seq ?_
  refine e_seq ?_
  refine e_plain ?_
  refine e_move rfl rfl ?_
  refine e_lenSl und24 rfl rfl rfl ?_
  refine e_move rfl rfl ?_
  refine e_nil ?_
  refine e_block ?_
  refine e_loopK [(0, _), (2, _), (3, _), (7, _)] [] (fun kk E m => ∃ (i : Nat) (s : Nat → Nat), kk = 8 - i ∧ E = [(8, ii i)] ∧ m = [(0, some ⟨r1, arr .u8 8 s, 5⟩)] ∧ (i ≤ 8) ∧ (∀ t, t < i → s t = (lowl n 8).getD t 0)) [(8, ii 0)] [(0, some ⟨r1, arr .u8 8 (fun _ => 0), 5⟩)] (8 - 0) ⟨rfl, rfl, rfl, rfl, rfl, trivial⟩ ⟨rfl, trivial⟩ ⟨0, fun _ => 0, rfl, rfl, rfl, by omega, fun t ht => absurd ht (Nat.not_lt_zero t)⟩ ?_
  rintro kk E m ⟨i, s, rfl, rfl, rfl, hf0_0, hf0_1⟩
  simp only [catE, catL]
  refine e_seq ?_
  refine e_plain ?_
  refine e_lt rfl rfl rfl ?_
  refine e_nil ?_
  refine e_seq ?_
  refine e_cond rfl ?_ ?_
  · intro hc0
    have hc0 : i < 8 := by have := of_decide_eq_true hc0; omega
    refine e_skip ?_
    refine e_seq ?_
    refine e_block ?_
    refine e_seq ?_
    refine e_plain ?_
    refine e_move rfl rfl ?_
    refine e_assign rfl rfl ?_
    refine e_nil ?_
    refine e_plain ?_
    refine e_move rfl rfl ?_
    refine e_move rfl rfl ?_
    refine e_move rfl rfl ?_
    refine e_move rfl rfl ?_
    refine e_mul_i (p := 8) rfl rfl rfl (by omega) ?_
    refine e_shr_i rfl rfl rfl (by omega) ?_
    refine e_conv_u8 und3 und5 rfl rfl rfl ?_
    refine e_atSl (i) und24 siz5 rfl rfl (by omega) (by omega) rfl ?_
    refine e_storeN (i := 0) siz5 rfl rfl rfl (by omega) (.inl rfl) ?_
    refine e_nil ?_
    refine e_plain ?_
    refine e_add_i (q := 1) rfl rfl rfl (by omega) ?_
    refine e_move rfl rfl ?_
    refine e_nil ?_
    refine ⟨_, [(8, ii (i + 1))], [(0, some ⟨r1, arr .u8 8 (upd s i _), 5⟩)], ?_, ⟨rfl, rfl, rfl, rfl, rfl, trivial⟩, ⟨rfl, trivial⟩, i + 1, upd s i _, rfl, rfl, rfl, by omega, upd_lt hf0_1 (low_at n (by omega))⟩
    omega
  · intro hc0
    have hc0 := of_decide_eq_false hc0
    have hz0 : i = 8 := by omega
    subst hz0
    refine e_exit ?_
    refine e_seq ?_
    refine e_plain ?_
    refine e_move rfl rfl ?_
    refine e_assign rfl rfl ?_
    refine e_nil ?_
    refine e_ret ?_
    exact ⟨_, _, _, 0, rfl, .tmp rfl, (own_made (lowl_len n 8) (by decide) hf0_1), rfl⟩

end Go.Proofs.Ytoalabpbohkcjaa

/-
  Walks, written by a program of ours off the loaded functions.
-/
namespace Go.Proofs.Ytoalabpbohkcjaa
open Go Go.RowKit


theorem ent19 : enters Try.prog 19 = true := by kernel_rfl
theorem ent34 : enters Try.prog 34 = true := by kernel_rfl
theorem ent35 : enters Try.prog 35 = true := by kernel_rfl
theorem ent36 : enters Try.prog 36 = true := by kernel_rfl
theorem zer24 : (Try.prog.info? 24).bind (·.zero) = some (.slice none 0 0) := by kernel_rfl

variable {G : Mem}

set_option maxHeartbeats 4000000 in
theorem dsummed_fn (va vt : Value) (ad tx : List Nat) (hva : Shows G 1 va ad.length (ad.map by8)) (hvt : Shows G 1 vt tx.length (tx.map by8)) (hal : ad.length ≤ 10000) (htl : tx.length ≤ 10000) : Fx Try.prog G [] 22 #[va, vt] (fun v l1 nw => l1 = [] ∧ ∃ v', v = v' ∧ OwnS 5 1 v' (macIn ad tx).length ((macIn ad tx).map by8) nw) := by
  have hml := macIn_len ad tx
  have hse := summed_eq ad tx
  refine fxN (n := 21) Try.func22 rfl rfl (by simp) (argE [va, vt] 0) (argE_ok _) ?_
  refine e_seq ?_
  refine e_plain ?_
  refine e_assign rfl rfl ?_
  refine e_nil ?_
  refine e_seq ?_
  refine e_plainR ⟨[], 4, []⟩ ?_
  refine e_move rfl rfl ?_
  refine e_move rfl rfl ?_
  refine e_lenV hva und24 rfl rfl rfl ?_
  refine e_callN 0 (fun v => v) rfl rfl ent35 seenG (dfill_fn ad.length) (by simp only [maxLen]; omega) (by rw [List.length_map, zrs_len, Nat.mul_one]) rfl rfl fun v1_1 oz1_1 ho1_1 => ?_
  refine e_move rfl rfl ?_
  refine e_move rfl rfl ?_
  refine e_lenV hvt und24 rfl rfl rfl ?_
  refine e_callN 1 (fun v => v) rfl rfl ent35 seenG (dfill_fn tx.length) (by simp only [maxLen]; omega) (by rw [List.length_map, zrs_len, Nat.mul_one]) rfl rfl fun v1_2 oz1_2 ho1_2 => ?_
  refine e_move rfl rfl ?_
  refine e_lenV hva und24 rfl rfl rfl ?_
  refine e_callN 2 (fun v => v) rfl rfl ent36 seenG (deight_fn ad.length) (by simp only [maxLen]; omega) (by rw [List.length_map, lowl_len]) rfl rfl fun v1_3 oz1_3 ho1_3 => ?_
  refine e_move rfl rfl ?_
  refine e_lenV hvt und24 rfl rfl rfl ?_
  refine e_callN 3 (fun v => v) rfl rfl ent36 seenG (deight_fn tx.length) (by simp only [maxLen]; omega) (by rw [List.length_map, lowl_len]) rfl rfl fun v1_4 oz1_4 ho1_4 => ?_
  refine e_buildSl 4 [va, v1_1, vt, v1_2, v1_3, v1_4].toArray und82 siz24 zer24 (by decide) (by decide) rfl (fill_ones [va, v1_1, vt, v1_2, v1_3, v1_4] 0 _ (by intro v hv; simp only [List.mem_cons, List.not_mem_nil, or_false] at hv; rcases hv with rfl | rfl | rfl | rfl | rfl | rfl; exact shows_one hva; exact shows_one ho1_1.shows; exact shows_one hvt; exact shows_one ho1_2.shows; exact shows_one ho1_3.shows; exact shows_one ho1_4.shows) (by simp)) rfl fun r5 => ?_
  refine e_callN 5 (fun v => v) rfl rfl ent34 (seen_app seenG (seen_app (seenM 0 rfl ⟨[], trivial⟩) (seen_app (seenM 1 rfl ⟨[], trivial⟩) (seen_app (seenM 2 rfl ⟨[], trivial⟩) (seen_app (seenM 3 rfl ⟨[], trivial⟩) (seen1 4 rfl ⟨[], trivial⟩)))))) (concat_fn (G := (G ++ (oz1_1.toList ++ (oz1_2.toList ++ (oz1_3.toList ++ (oz1_4.toList ++ [(⟨r5, [va, v1_1, vt, v1_2, v1_3, v1_4].toArray, 24⟩ : Blk)])))))) (.slice (some ⟨r5, 0, none⟩) 6 6) [va, v1_1, vt, v1_2, v1_3, v1_4] [ad, zrs ((16 - ad.length % 16) % 16), tx, zrs ((16 - tx.length % 16) % 16), lowl ad.length 8, lowl tx.length 8] (Shows.mono (shows_new (r := r5) (len := 6) (z := 1) [va, v1_1, vt, v1_2, v1_3, v1_4].toArray 24 rfl) (fun x h => (List.mem_append_right _ (List.mem_append_right _ (List.mem_append_right _ (List.mem_append_right _ (List.mem_append_right _ h))))))) (showsL_cons (hva.mono (fun x h => (List.mem_append_left _ h))) (showsL_cons (Shows.mono (OwnS.shows (own_fix ho1_1 (zrs_len _).symm rfl)) (fun x h => (List.mem_append_right _ (List.mem_append_left _ h)))) (showsL_cons (hvt.mono (fun x h => (List.mem_append_left _ h))) (showsL_cons (Shows.mono (OwnS.shows (own_fix ho1_2 (zrs_len _).symm rfl)) (fun x h => (List.mem_append_right _ (List.mem_append_right _ (List.mem_append_left _ h))))) (showsL_cons (Shows.mono (OwnS.shows (own_fix ho1_3 (lowl_len ad.length 8).symm rfl)) (fun x h => (List.mem_append_right _ (List.mem_append_right _ (List.mem_append_right _ (List.mem_append_left _ h)))))) (showsL_cons (Shows.mono (OwnS.shows (own_fix ho1_4 (lowl_len tx.length 8).symm rfl)) (fun x h => (List.mem_append_right _ (List.mem_append_right _ (List.mem_append_right _ (List.mem_append_right _ (List.mem_append_left _ h))))))) (showsL_nil _))))))) (Nat.le_of_ble_eq_true rfl) (by rw [hse]; omega)) (by rw [hse]; simp only [maxLen]; omega) (by rw [List.length_map, Nat.mul_one]) rfl rfl fun v1_5 oz1_5 ho1_5 => ?_
  refine e_assign rfl rfl ?_
  refine e_nil ?_
  refine e_ret ?_
  exact ⟨_, _, _, 5, rfl, .tmp rfl, (own_fix ho1_5 (by rw [hse]) (by rw [hse])), rfl⟩

set_option maxHeartbeats 400000 in
theorem dsame_fn (f g : Nat → Nat) : Fn Try.prog G 18 #[.agg (arr .u8 16 f), .agg (arr .u8 16 g)] (.bool (decide (agr f g 16 = 0))) := by
  refine fn1 (n := 22) Try.func18 rfl rfl (by simp) (argE [.agg (arr .u8 16 f), .agg (arr .u8 16 g)] 0) (argE_ok _) ?_
  refine e_seq ?_
  refine e_plain ?_
  refine e_box 0 rfl rfl fun r1 => ?_
  refine e_box 1 rfl rfl fun r2 => ?_
  refine e_assign rfl rfl ?_
  refine e_nil ?_
  refine e_seq ?_
  refine e_plain ?_
  refine e_assign rfl rfl ?_
  refine e_nil ?_
  refine e_seq ?_
  refine e_seq ?_
  refine e_plain ?_
  refine e_move rfl rfl ?_
  refine e_nil ?_
  refine e_block ?_
  refine e_loopK [(2, _), (3, _), (4, _)] [(0, _), (1, _)] (fun kk E m => ∃ (i : Nat), kk = 16 - i ∧ E = [(5, by8 (agr f g i)), (7, ii i)] ∧ m = [] ∧ (i ≤ 16)) [(5, by8 (agr f g 0)), (7, ii 0)] [] (16 - 0) ⟨rfl, rfl, rfl, rfl, rfl, trivial⟩ ⟨rfl, rfl, trivial⟩ ⟨0, rfl, rfl, rfl, by omega⟩ ?_
  rintro kk E m ⟨i, rfl, rfl, rfl, hf0_0⟩
  simp only [catE, catL]
  refine e_seq ?_
  refine e_plain ?_
  refine e_lt rfl rfl rfl ?_
  refine e_nil ?_
  refine e_seq ?_
  refine e_cond rfl ?_ ?_
  · intro hc0
    have hc0 : i < 16 := by have := of_decide_eq_true hc0; omega
    refine e_skip ?_
    refine e_seq ?_
    refine e_block ?_
    refine e_seq ?_
    refine e_plain ?_
    refine e_move rfl rfl ?_
    refine e_assign rfl rfl ?_
    refine e_nil ?_
    refine e_draw mixed (by kernel_rfl) ?_
    refine e_move rfl rfl ?_
    refine e_move rfl rfl ?_
    refine e_index0 und38 siz5 rfl rfl (by omega) rfl ?_
    refine e_load1 (i := 0) und5 rfl rfl rfl (arr_get (by omega)) rfl ⟨[], trivial⟩ ?_
    refine e_move rfl rfl ?_
    refine e_index0 und38 siz5 rfl rfl (by omega) rfl ?_
    refine e_load1 (i := 1) und5 rfl rfl rfl (arr_get (by omega)) rfl ⟨[], trivial⟩ ?_
    refine e_xor_b rfl rfl rfl  ?_
    refine e_or_b rfl rfl rfl  ?_
    refine e_assign rfl rfl ?_
    refine e_nil ?_
    refine e_plain ?_
    refine e_add_i (q := 1) rfl rfl rfl (by omega) ?_
    refine e_move rfl rfl ?_
    refine e_nil ?_
    refine ⟨_, [(5, by8 (agr f g (i + 1))), (7, ii (i + 1))], [], ?_, ⟨rfl, rfl, rfl, rfl, rfl, trivial⟩, ⟨rfl, rfl, trivial⟩, i + 1, rfl, rfl, rfl, by omega⟩
    omega
  · intro hc0
    have hc0 := of_decide_eq_false hc0
    have hz0 : i = 16 := by omega
    subst hz0
    refine e_exit ?_
    refine e_seq ?_
    refine e_plain ?_
    refine e_move rfl rfl ?_
    refine e_eq rfl rfl rfl ?_
    refine e_as (show _ = Value.bool (decide (agr f g 16 = 0)) from congrArg Value.bool (decide_eq_decide.2 (by omega))) ?_
    refine e_assign rfl rfl ?_
    refine e_nil ?_
    refine e_ret ?_
    exact ⟨_, rfl, .tmp rfl⟩

set_option maxHeartbeats 400000 in
theorem dstream_fn (k nn : Nat → Nat) (v : Value) (l : List Nat) (hk : ∀ j, j < 32 → k j < 256) (hn : ∀ j, j < 12 → nn j < 256) (hv : Shows G 1 v l.length (l.map by8)) (hl : l.length ≤ 1600) : Fx Try.prog G [] 14 #[.agg (arr .u8 32 k), .agg (arr .u8 12 nn), v] (fun v l1 nw => l1 = [] ∧ ∃ v', v = v' ∧ OwnS 5 1 v' l.length ((strl k 1 nn l 0).map by8) nw) := by
  refine fxN (n := 17) Try.func14 rfl rfl (by simp) (argE [.agg (arr .u8 32 k), .agg (arr .u8 12 nn), v] 0) (argE_ok _) ?_
  refine e_seq ?_
  refine e_plain ?_
  refine e_box 0 rfl rfl fun r1 => ?_
  refine e_box 1 rfl rfl fun r2 => ?_
  refine e_assign rfl rfl ?_
  refine e_nil ?_
  refine e_seq ?_
  refine e_plainR ⟨[], 4, []⟩ ?_
  refine e_loadA (i := 0) und36 rfl siz36 rfl rfl (arr_size _ _ _) rfl ⟨[], trivial⟩ ?_
  refine e_loadA (i := 1) und23 rfl siz23 rfl rfl (arr_size _ _ _) rfl ⟨[], trivial⟩ ?_
  refine e_move rfl rfl ?_
  refine e_callN 2 (fun v => .tuple #[v, ii 0]) rfl rfl ent19 seenG (stream_ok k 1 nn v l hv hk hn (by decide) (by omega) (by omega)) (by simp only [maxLen]; omega) (by rw [List.length_map, strl_len, Nat.mul_one]) rfl rfl fun v1_1 oz1_1 ho1_1 => ?_
  refine e_move rfl rfl ?_
  refine e_extract rfl rfl rfl ?_
  refine e_extract rfl rfl rfl ?_
  refine e_assign rfl rfl ?_
  refine e_assign rfl rfl ?_
  refine e_nil ?_
  refine e_seq ?_
  refine e_plain ?_
  refine e_move rfl rfl ?_
  refine e_assign rfl rfl ?_
  refine e_nil ?_
  refine e_ret ?_
  exact ⟨_, _, _, 2, rfl, .tmp rfl, ho1_1, rfl⟩

end Go.Proofs.Ytoalabpbohkcjaa

/-
  Walks, written by a program of ours off the loaded functions.
-/
namespace Go.Proofs.Ytoalabpbohkcjaa
open Go Go.RowKit


theorem ent21 : enters Try.prog 21 = true := by kernel_rfl
theorem ent22 : enters Try.prog 22 = true := by kernel_rfl

variable {G : Mem}

set_option maxHeartbeats 4000000 in
theorem dtagOf_fn (k nn : Nat → Nat) (va vt : Value) (ad tx : List Nat) (hva : Shows G 1 va ad.length (ad.map by8)) (hvt : Shows G 1 vt tx.length (tx.map by8)) (hk : ∀ j, j < 32 → k j < 256) (hn : ∀ j, j < 12 → nn j < 256) (hab : (∀ b ∈ ad, b < 256)) (htb : (∀ b ∈ tx, b < 256)) (hal : ad.length ≤ 10000) (htl : tx.length ≤ 10000) : Fn Try.prog G 15 #[.agg (arr .u8 32 k), .agg (arr .u8 12 nn), va, vt] (.agg (arr .u8 16 (ptg (okey k nn) (macIn ad tx)))) := by
  have hml := macIn_len ad tx
  refine fn1 (n := 20) Try.func15 rfl rfl (by simp) (argE [.agg (arr .u8 32 k), .agg (arr .u8 12 nn), va, vt] 0) (argE_ok _) ?_
  refine e_seq ?_
  refine e_plain ?_
  refine e_box 0 rfl rfl fun r1 => ?_
  refine e_box 1 rfl rfl fun r2 => ?_
  refine e_alloc 2 zer38 rfl fun r3 => ?_
  refine e_nil ?_
  refine e_seq ?_
  refine e_plain ?_
  refine e_loadA (i := 0) und36 rfl siz36 rfl rfl (arr_size _ _ _) rfl ⟨[], trivial⟩ ?_
  refine e_loadA (i := 1) und23 rfl siz23 rfl rfl (arr_size _ _ _) rfl ⟨[], trivial⟩ ?_
  refine e_call rfl ent20 (block_fn k 0 nn hk hn (by decide)) rfl rfl ?_
  refine e_alloc 3 zer44 rfl fun r4 => ?_
  refine e_storeA (i := 3) siz44 rfl rfl (arr_size _ _ _) arr_one rfl (arr_sz _ _ _ _ _) (.inl rfl) ?_
  refine e_nil ?_
  refine e_seq ?_
  refine e_drawR ⟨[], 4, []⟩ mixed (by kernel_rfl) ?_
  refine e_sliceA 0 32 und44 siz5 rfl rfl rfl rfl ⟨_, rfl⟩ (by omega) (by omega) (by omega) rfl ?_
  refine e_toArr und36 rfl (by omega) rfl ?_
  refine e_loadS (i := 3) und36 rfl siz36 rfl rfl (by omega) rfl ⟨[], trivial⟩ ?_
  refine e_as (congrArg Value.agg (arr_congr (fun j _ => show blkf k 0 nn (0 + j) = okey k nn j by rw [Nat.zero_add]; rfl))) ?_
  refine e_move rfl rfl ?_
  refine e_move rfl rfl ?_
  refine e_callN 4 (fun v => v) rfl rfl ent22 seenG (dsummed_fn va vt ad tx hva hvt hal htl) (by simp only [maxLen]; omega) (by rw [List.length_map, Nat.mul_one]) rfl rfl fun v1_1 oz1_1 ho1_1 => ?_
  refine e_callV oz1_1.toList rfl rfl ent21 (subM_opt (i := 4) rfl) (dtag_fn (okey k nn) _ (macIn ad tx) (okey_lt k nn) (macIn_lt hab htb) (by omega) ho1_1.shows) rfl rfl rfl ?_
  refine e_storeA (i := 2) siz38 rfl rfl (arr_size _ _ _) arr_one rfl (arr_sz _ _ _ _ _) (.inl rfl) ?_
  refine e_nil ?_
  refine e_ret ?_
  exact ⟨_, rfl, .cell (i := 2) rfl rfl und38 rfl siz38 (arr_size _ _ _)⟩

end Go.Proofs.Ytoalabpbohkcjaa

/-
  Walks, written by a program of ours off the loaded functions.
-/
namespace Go.Proofs.Ytoalabpbohkcjaa
open Go Go.RowKit


theorem ent14 : enters Try.prog 14 = true := by kernel_rfl
theorem ent15 : enters Try.prog 15 = true := by kernel_rfl
theorem ent18 : enters Try.prog 18 = true := by kernel_rfl

variable {G : Mem}

set_option maxHeartbeats 400000 in
theorem dseal_big1 (k nn : Nat → Nat) (va vt : Value) (ad : List Nat) (hva : Shows G 1 va ad.length (ad.map by8)) (h : 200 < ad.length) : Fn Try.prog G 7 #[.agg (arr .u8 32 k), .agg (arr .u8 12 nn), va, vt] (.tuple #[nilS, ii 1]) := by
  refine fn2 (n := 32) Try.func7 rfl rfl (by simp) (argE [.agg (arr .u8 32 k), .agg (arr .u8 12 nn), va, vt] 0) (argE_ok _) ?_
  refine e_seq ?_
  refine e_plain ?_
  refine e_box 0 rfl rfl fun r1 => ?_
  refine e_box 1 rfl rfl fun r2 => ?_
  refine e_assign rfl rfl ?_
  refine e_assign rfl rfl ?_
  refine e_nil ?_
  refine e_seq ?_
  refine e_seq ?_
  refine e_plain ?_
  refine e_move rfl rfl ?_
  refine e_lenV hva und24 rfl rfl rfl ?_
  refine e_gt rfl rfl rfl ?_
  refine e_as (congrArg Value.bool (decide_eq_true (by omega))) ?_
  refine e_move rfl rfl ?_
  refine e_no rfl rfl (by decide) rfl ?_
  refine e_no rfl rfl (by decide) rfl ?_
  refine e_no rfl rfl (by decide) rfl ?_
  refine e_pickT rfl rfl rfl rfl ?_
  refine e_nil ?_
  refine e_cond rfl ?_ ?_
  · intro hc0
    refine e_seq ?_
    refine e_plain ?_
    refine e_assign rfl rfl ?_
    refine e_assign rfl rfl ?_
    refine e_nil ?_
    refine e_ret ?_
    exact ⟨_, _, rfl, .tmp rfl, .tmp rfl⟩
  · intro hc0
    cases hc0

set_option maxHeartbeats 400000 in
theorem dseal_big2 (k nn : Nat → Nat) (va vt : Value) (ad tx : List Nat) (hva : Shows G 1 va ad.length (ad.map by8)) (hvt : Shows G 1 vt tx.length (tx.map by8)) (h : ad.length ≤ 200) (h2 : 800 < tx.length) : Fn Try.prog G 7 #[.agg (arr .u8 32 k), .agg (arr .u8 12 nn), va, vt] (.tuple #[nilS, ii 1]) := by
  refine fn2 (n := 32) Try.func7 rfl rfl (by simp) (argE [.agg (arr .u8 32 k), .agg (arr .u8 12 nn), va, vt] 0) (argE_ok _) ?_
  refine e_seq ?_
  refine e_plain ?_
  refine e_box 0 rfl rfl fun r1 => ?_
  refine e_box 1 rfl rfl fun r2 => ?_
  refine e_assign rfl rfl ?_
  refine e_assign rfl rfl ?_
  refine e_nil ?_
  refine e_seq ?_
  refine e_seq ?_
  refine e_plain ?_
  refine e_move rfl rfl ?_
  refine e_lenV hva und24 rfl rfl rfl ?_
  refine e_gt rfl rfl rfl ?_
  refine e_as (congrArg Value.bool (decide_eq_false (by omega))) ?_
  refine e_move rfl rfl ?_
  refine e_yes rfl rfl rfl ?_
  refine e_move rfl rfl ?_
  refine e_yes rfl rfl rfl ?_
  refine e_lenV hvt und24 rfl rfl rfl ?_
  refine e_yes rfl rfl rfl ?_
  refine e_gt rfl rfl rfl ?_
  refine e_as (congrArg Value.bool (decide_eq_true (by omega))) ?_
  refine e_pickF rfl rfl rfl rfl ?_
  refine e_nil ?_
  refine e_cond rfl ?_ ?_
  · intro hc0
    refine e_seq ?_
    refine e_plain ?_
    refine e_assign rfl rfl ?_
    refine e_assign rfl rfl ?_
    refine e_nil ?_
    refine e_ret ?_
    exact ⟨_, _, rfl, .tmp rfl, .tmp rfl⟩
  · intro hc0
    cases hc0

set_option maxHeartbeats 4000000 in
theorem dseal_ok (k nn : Nat → Nat) (va vt : Value) (ad tx : List Nat) (hk : ∀ j, j < 32 → k j < 256) (hn : ∀ j, j < 12 → nn j < 256) (hva : Shows G 1 va ad.length (ad.map by8)) (hvt : Shows G 1 vt tx.length (tx.map by8)) (hab : (∀ b ∈ ad, b < 256)) (h : ad.length ≤ 200) (h2 : tx.length ≤ 800) : Fx Try.prog G [] 7 #[.agg (arr .u8 32 k), .agg (arr .u8 12 nn), va, vt] (fun v l1 nw => l1 = [] ∧ ∃ v', v = .tuple #[v', ii 0] ∧ OwnS 5 1 v' (sealL k nn ad tx).length ((sealL k nn ad tx).map by8) nw) := by
  have hsl := strl_len k 1 nn tx 0
  have hse := sealL_len k nn ad tx
  refine fxN2 (n := 32) Try.func7 rfl rfl (by simp) (argE [.agg (arr .u8 32 k), .agg (arr .u8 12 nn), va, vt] 0) (argE_ok _) ?_
  refine e_seq ?_
  refine e_plain ?_
  refine e_box 0 rfl rfl fun r1 => ?_
  refine e_box 1 rfl rfl fun r2 => ?_
  refine e_assign rfl rfl ?_
  refine e_assign rfl rfl ?_
  refine e_nil ?_
  refine e_seq ?_
  refine e_seq ?_
  refine e_plain ?_
  refine e_move rfl rfl ?_
  refine e_lenV hva und24 rfl rfl rfl ?_
  refine e_gt rfl rfl rfl ?_
  refine e_as (congrArg Value.bool (decide_eq_false (by omega))) ?_
  refine e_move rfl rfl ?_
  refine e_yes rfl rfl rfl ?_
  refine e_move rfl rfl ?_
  refine e_yes rfl rfl rfl ?_
  refine e_lenV hvt und24 rfl rfl rfl ?_
  refine e_yes rfl rfl rfl ?_
  refine e_gt rfl rfl rfl ?_
  refine e_as (congrArg Value.bool (decide_eq_false (by omega))) ?_
  refine e_pickF rfl rfl rfl rfl ?_
  refine e_nil ?_
  refine e_cond rfl ?_ ?_
  · intro hc0
    cases hc0
  · intro hc0
    refine e_skip ?_
    refine e_seq ?_
    refine e_plainR ⟨[], 4, []⟩ ?_
    refine e_loadA (i := 0) und36 rfl siz36 rfl rfl (arr_size _ _ _) rfl ⟨[], trivial⟩ ?_
    refine e_loadA (i := 1) und23 rfl siz23 rfl rfl (arr_size _ _ _) rfl ⟨[], trivial⟩ ?_
    refine e_move rfl rfl ?_
    refine e_callN 2 (fun v => v) rfl rfl ent14 seenG (dstream_fn k nn vt tx hk hn hvt (by omega)) (by simp only [maxLen]; omega) (by rw [List.length_map, strl_len, Nat.mul_one, Nat.sub_zero]) rfl rfl fun v2_1 oz2_1 ho2_1 => ?_
    refine e_assign rfl rfl ?_
    refine e_nil ?_
    refine e_seq ?_
    refine e_plain ?_
    refine e_loadA (i := 0) und36 rfl siz36 rfl rfl (arr_size _ _ _) rfl ⟨[], trivial⟩ ?_
    refine e_loadA (i := 1) und23 rfl siz23 rfl rfl (arr_size _ _ _) rfl ⟨[], trivial⟩ ?_
    refine e_move rfl rfl ?_
    refine e_move rfl rfl ?_
    refine e_callS rfl rfl ent15 (seen_app seenG (seenM 2 rfl ⟨[], trivial⟩)) (dtagOf_fn (G := G ++ oz2_1.toList) k nn va _ ad (strl k 1 nn tx 0) (hva.mono (fun x h => List.mem_append_left _ h)) ((own_bytes ho2_1).mono (fun x h => List.mem_append_right _ h)) hk hn hab (strl_lt _ _ _ _ _) (by omega) (by omega)) rfl rfl ?_
    refine e_alloc 3 zer38 rfl fun r4 => ?_
    refine e_storeA (i := 3) siz38 rfl rfl (arr_size _ _ _) arr_one rfl (arr_sz _ _ _ _ _) (.inl rfl) ?_
    refine e_nil ?_
    refine e_seq ?_
    refine e_plain ?_
    refine e_move rfl rfl ?_
    refine e_sliceA 0 16 und38 siz5 rfl rfl rfl rfl rfl (by omega) (by omega) (by omega) rfl ?_
    refine e_append 2 ho2_1 (arr_shows r4 16 (ptg (okey k nn) (macIn ad (strl k 1 nn tx 0))) 38 0 16 16 (by decide) (by decide)) rfl (seen1 3 rfl ⟨[], trivial⟩) und24 siz5 byt5 zer5 (by rfl) rfl rfl by8_one (by simp only [maxLen]; simp; omega) (by simp; omega) rfl fun v2_2 oz2_2 ho2_2 => ?_
    refine e_assign rfl rfl ?_
    refine e_assign rfl rfl ?_
    refine e_nil ?_
    refine e_ret ?_
    exact ⟨_, _, _, _, 2, rfl, .tmp rfl, .tmp rfl, (own_fix ho2_2 (by rw [hse]; simp) (seal_cells k nn ad tx)), rfl⟩

set_option maxHeartbeats 400000 in
theorem dopen_big1 (k nn : Nat → Nat) (va vt : Value) (ad : List Nat) (hva : Shows G 1 va ad.length (ad.map by8)) (h : 200 < ad.length) : Fn Try.prog G 10 #[.agg (arr .u8 32 k), .agg (arr .u8 12 nn), va, vt] (.tuple #[nilS, ii 1]) := by
  refine fn2 (n := 45) Try.func10 rfl rfl (by simp) (argE [.agg (arr .u8 32 k), .agg (arr .u8 12 nn), va, vt] 0) (argE_ok _) ?_
  refine e_seq ?_
  refine e_plain ?_
  refine e_box 0 rfl rfl fun r1 => ?_
  refine e_box 1 rfl rfl fun r2 => ?_
  refine e_assign rfl rfl ?_
  refine e_assign rfl rfl ?_
  refine e_nil ?_
  refine e_seq ?_
  refine e_seq ?_
  refine e_plain ?_
  refine e_move rfl rfl ?_
  refine e_lenV hva und24 rfl rfl rfl ?_
  refine e_gt rfl rfl rfl ?_
  refine e_as (congrArg Value.bool (decide_eq_true (by omega))) ?_
  refine e_move rfl rfl ?_
  refine e_no rfl rfl (by decide) rfl ?_
  refine e_no rfl rfl (by decide) rfl ?_
  refine e_no rfl rfl (by decide) rfl ?_
  refine e_pickT rfl rfl rfl rfl ?_
  refine e_nil ?_
  refine e_cond rfl ?_ ?_
  · intro hc0
    refine e_seq ?_
    refine e_plain ?_
    refine e_assign rfl rfl ?_
    refine e_assign rfl rfl ?_
    refine e_nil ?_
    refine e_ret ?_
    exact ⟨_, _, rfl, .tmp rfl, .tmp rfl⟩
  · intro hc0
    cases hc0

set_option maxHeartbeats 400000 in
theorem dopen_big2 (k nn : Nat → Nat) (va vt : Value) (ad tx : List Nat) (hva : Shows G 1 va ad.length (ad.map by8)) (hvt : Shows G 1 vt tx.length (tx.map by8)) (h : ad.length ≤ 200) (h2 : 816 < tx.length) : Fn Try.prog G 10 #[.agg (arr .u8 32 k), .agg (arr .u8 12 nn), va, vt] (.tuple #[nilS, ii 1]) := by
  refine fn2 (n := 45) Try.func10 rfl rfl (by simp) (argE [.agg (arr .u8 32 k), .agg (arr .u8 12 nn), va, vt] 0) (argE_ok _) ?_
  refine e_seq ?_
  refine e_plain ?_
  refine e_box 0 rfl rfl fun r1 => ?_
  refine e_box 1 rfl rfl fun r2 => ?_
  refine e_assign rfl rfl ?_
  refine e_assign rfl rfl ?_
  refine e_nil ?_
  refine e_seq ?_
  refine e_seq ?_
  refine e_plain ?_
  refine e_move rfl rfl ?_
  refine e_lenV hva und24 rfl rfl rfl ?_
  refine e_gt rfl rfl rfl ?_
  refine e_as (congrArg Value.bool (decide_eq_false (by omega))) ?_
  refine e_move rfl rfl ?_
  refine e_yes rfl rfl rfl ?_
  refine e_move rfl rfl ?_
  refine e_yes rfl rfl rfl ?_
  refine e_lenV hvt und24 rfl rfl rfl ?_
  refine e_yes rfl rfl rfl ?_
  refine e_gt rfl rfl rfl ?_
  refine e_as (congrArg Value.bool (decide_eq_true (by omega))) ?_
  refine e_pickF rfl rfl rfl rfl ?_
  refine e_nil ?_
  refine e_cond rfl ?_ ?_
  · intro hc0
    refine e_seq ?_
    refine e_plain ?_
    refine e_assign rfl rfl ?_
    refine e_assign rfl rfl ?_
    refine e_nil ?_
    refine e_ret ?_
    exact ⟨_, _, rfl, .tmp rfl, .tmp rfl⟩
  · intro hc0
    cases hc0

set_option maxHeartbeats 400000 in
theorem dopen_short (k nn : Nat → Nat) (va vt : Value) (ad tx : List Nat) (hva : Shows G 1 va ad.length (ad.map by8)) (hvt : Shows G 1 vt tx.length (tx.map by8)) (h : ad.length ≤ 200) (h2 : tx.length < 16) : Fn Try.prog G 10 #[.agg (arr .u8 32 k), .agg (arr .u8 12 nn), va, vt] (.tuple #[nilS, ii 4]) := by
  refine fn2 (n := 45) Try.func10 rfl rfl (by simp) (argE [.agg (arr .u8 32 k), .agg (arr .u8 12 nn), va, vt] 0) (argE_ok _) ?_
  refine e_seq ?_
  refine e_plain ?_
  refine e_box 0 rfl rfl fun r1 => ?_
  refine e_box 1 rfl rfl fun r2 => ?_
  refine e_assign rfl rfl ?_
  refine e_assign rfl rfl ?_
  refine e_nil ?_
  refine e_seq ?_
  refine e_seq ?_
  refine e_plain ?_
  refine e_move rfl rfl ?_
  refine e_lenV hva und24 rfl rfl rfl ?_
  refine e_gt rfl rfl rfl ?_
  refine e_as (congrArg Value.bool (decide_eq_false (by omega))) ?_
  refine e_move rfl rfl ?_
  refine e_yes rfl rfl rfl ?_
  refine e_move rfl rfl ?_
  refine e_yes rfl rfl rfl ?_
  refine e_lenV hvt und24 rfl rfl rfl ?_
  refine e_yes rfl rfl rfl ?_
  refine e_gt rfl rfl rfl ?_
  refine e_as (congrArg Value.bool (decide_eq_false (by omega))) ?_
  refine e_pickF rfl rfl rfl rfl ?_
  refine e_nil ?_
  refine e_cond rfl ?_ ?_
  · intro hc0
    cases hc0
  · intro hc0
    refine e_skip ?_
    refine e_seq ?_
    refine e_seq ?_
    refine e_plain ?_
    refine e_move rfl rfl ?_
    refine e_lenV hvt und24 rfl rfl rfl ?_
    refine e_lt rfl rfl rfl ?_
    refine e_as (congrArg Value.bool (decide_eq_true (by omega))) ?_
    refine e_nil ?_
    refine e_cond rfl ?_ ?_
    · intro hc1
      refine e_seq ?_
      refine e_plain ?_
      refine e_assign rfl rfl ?_
      refine e_assign rfl rfl ?_
      refine e_nil ?_
      refine e_ret ?_
      exact ⟨_, _, rfl, .tmp rfl, .tmp rfl⟩
    · intro hc1
      cases hc1

set_option maxHeartbeats 4000000 in
theorem dopen_auth (k nn : Nat → Nat) (va vt : Value) (ad tx : List Nat) (hk : ∀ j, j < 32 → k j < 256) (hn : ∀ j, j < 12 → nn j < 256) (hva : Shows G 1 va ad.length (ad.map by8)) (hvt : Shows G 1 vt tx.length (tx.map by8)) (hab : (∀ b ∈ ad, b < 256)) (htb : (∀ b ∈ tx, b < 256)) (h : ad.length ≤ 200) (h2 : 16 ≤ tx.length) (h3 : tx.length ≤ 816) (ho : ¬ opensL k nn ad tx) : Fn Try.prog G 10 #[.agg (arr .u8 32 k), .agg (arr .u8 12 nn), va, vt] (.tuple #[nilS, ii 10]) := by
  have hv1 : Shows G 1 (slPart 1 vt 0 (tx.length - 16)) (tx.take (tx.length - 16)).length ((tx.take (tx.length - 16)).map by8) := hvt.cut (by omega) (by omega) (by simp)
  have hv2 : Shows G 1 (slPart 1 vt (tx.length - 16) tx.length) (tx.drop (tx.length - 16)).length ((tx.drop (tx.length - 16)).map by8) := hvt.cut (by omega) (by omega) (by rw [List.take_of_length_le (by simp)])
  refine fn2 (n := 45) Try.func10 rfl rfl (by simp) (argE [.agg (arr .u8 32 k), .agg (arr .u8 12 nn), va, vt] 0) (argE_ok _) ?_
  refine e_seq ?_
  refine e_plain ?_
  refine e_box 0 rfl rfl fun r1 => ?_
  refine e_box 1 rfl rfl fun r2 => ?_
  refine e_assign rfl rfl ?_
  refine e_assign rfl rfl ?_
  refine e_nil ?_
  refine e_seq ?_
  refine e_seq ?_
  refine e_plain ?_
  refine e_move rfl rfl ?_
  refine e_lenV hva und24 rfl rfl rfl ?_
  refine e_gt rfl rfl rfl ?_
  refine e_as (congrArg Value.bool (decide_eq_false (by omega))) ?_
  refine e_move rfl rfl ?_
  refine e_yes rfl rfl rfl ?_
  refine e_move rfl rfl ?_
  refine e_yes rfl rfl rfl ?_
  refine e_lenV hvt und24 rfl rfl rfl ?_
  refine e_yes rfl rfl rfl ?_
  refine e_gt rfl rfl rfl ?_
  refine e_as (congrArg Value.bool (decide_eq_false (by omega))) ?_
  refine e_pickF rfl rfl rfl rfl ?_
  refine e_nil ?_
  refine e_cond rfl ?_ ?_
  · intro hc0
    cases hc0
  · intro hc0
    refine e_skip ?_
    refine e_seq ?_
    refine e_seq ?_
    refine e_plain ?_
    refine e_move rfl rfl ?_
    refine e_lenV hvt und24 rfl rfl rfl ?_
    refine e_lt rfl rfl rfl ?_
    refine e_as (congrArg Value.bool (decide_eq_false (by omega))) ?_
    refine e_nil ?_
    refine e_cond rfl ?_ ?_
    · intro hc1
      cases hc1
    · intro hc1
      refine e_skip ?_
      refine e_seq ?_
      refine e_plain ?_
      refine e_move rfl rfl ?_
      refine e_lenV hvt und24 rfl rfl rfl ?_
      refine e_sub_in (q := 16) rfl rfl rfl (by omega) (by omega) ?_
      refine e_assign rfl rfl ?_
      refine e_nil ?_
      refine e_seq ?_
      refine e_seq ?_
      refine e_draw mixed (by kernel_rfl) ?_
      refine e_move rfl rfl ?_
      refine e_move rfl rfl ?_
      refine e_sliceV (tx.length - 16) tx.length hvt und24 siz5 rfl rfl rfl ⟨_, rfl⟩ rfl (by omega) (by omega) rfl ?_
      refine e_toArrV hv2 und38 rfl (by decide) (by rw [List.length_drop]; omega) rfl ?_
      refine e_loadVS hv2 seenG und38 rfl siz38 rfl (by decide) (by simp; omega) rfl rfl ?_
      refine e_as (last_cells (by rw [List.length_drop]; omega)) ?_
      refine e_loadA (i := 0) und36 rfl siz36 rfl rfl (arr_size _ _ _) rfl ⟨[], trivial⟩ ?_
      refine e_loadA (i := 1) und23 rfl siz23 rfl rfl (arr_size _ _ _) rfl ⟨[], trivial⟩ ?_
      refine e_move rfl rfl ?_
      refine e_move rfl rfl ?_
      refine e_move rfl rfl ?_
      refine e_sliceV 0 (tx.length - 16) hvt und24 siz5 rfl rfl rfl rfl ⟨_, rfl⟩ (by omega) (by omega) rfl ?_
      refine e_call rfl ent15 (dtagOf_fn k nn va _ ad (tx.take (tx.length - 16)) hva hv1 hk hn hab (fun x hx => htb x (List.mem_of_mem_take hx)) (by omega) (by simp; omega)) rfl rfl ?_
      refine e_call rfl ent18 (dsame_fn _ _) rfl rfl ?_
      refine e_as (congrArg Value.bool (decide_eq_false (fun e => ho ((opens_iff k nn h2 htb).1 e)))) ?_
      refine e_not rfl rfl ?_
      refine e_nil ?_
      refine e_cond rfl ?_ ?_
      · intro hc2
        refine e_seq ?_
        refine e_plain ?_
        refine e_assign rfl rfl ?_
        refine e_assign rfl rfl ?_
        refine e_nil ?_
        refine e_ret ?_
        exact ⟨_, _, rfl, .tmp rfl, .tmp rfl⟩
      · intro hc2
        cases hc2

set_option maxHeartbeats 4000000 in
theorem dopen_ok (k nn : Nat → Nat) (va vt : Value) (ad tx : List Nat) (hk : ∀ j, j < 32 → k j < 256) (hn : ∀ j, j < 12 → nn j < 256) (hva : Shows G 1 va ad.length (ad.map by8)) (hvt : Shows G 1 vt tx.length (tx.map by8)) (hab : (∀ b ∈ ad, b < 256)) (htb : (∀ b ∈ tx, b < 256)) (h : ad.length ≤ 200) (h2 : 16 ≤ tx.length) (h3 : tx.length ≤ 816) (ho : opensL k nn ad tx) : Fx Try.prog G [] 10 #[.agg (arr .u8 32 k), .agg (arr .u8 12 nn), va, vt] (fun v l1 nw => l1 = [] ∧ ∃ v', v = .tuple #[v', ii 0] ∧ OwnS 5 1 v' (openL k nn tx).length ((openL k nn tx).map by8) nw) := by
  have hv1 : Shows G 1 (slPart 1 vt 0 (tx.length - 16)) (tx.take (tx.length - 16)).length ((tx.take (tx.length - 16)).map by8) := hvt.cut (by omega) (by omega) (by simp)
  have hv2 : Shows G 1 (slPart 1 vt (tx.length - 16) tx.length) (tx.drop (tx.length - 16)).length ((tx.drop (tx.length - 16)).map by8) := hvt.cut (by omega) (by omega) (by rw [List.take_of_length_le (by simp)])
  have htl : (tx.take (tx.length - 16)).length = tx.length - 16 := by simp
  have hol := openL_len k nn tx
  refine fxN2 (n := 45) Try.func10 rfl rfl (by simp) (argE [.agg (arr .u8 32 k), .agg (arr .u8 12 nn), va, vt] 0) (argE_ok _) ?_
  refine e_seq ?_
  refine e_plain ?_
  refine e_box 0 rfl rfl fun r1 => ?_
  refine e_box 1 rfl rfl fun r2 => ?_
  refine e_assign rfl rfl ?_
  refine e_assign rfl rfl ?_
  refine e_nil ?_
  refine e_seq ?_
  refine e_seq ?_
  refine e_plain ?_
  refine e_move rfl rfl ?_
  refine e_lenV hva und24 rfl rfl rfl ?_
  refine e_gt rfl rfl rfl ?_
  refine e_as (congrArg Value.bool (decide_eq_false (by omega))) ?_
  refine e_move rfl rfl ?_
  refine e_yes rfl rfl rfl ?_
  refine e_move rfl rfl ?_
  refine e_yes rfl rfl rfl ?_
  refine e_lenV hvt und24 rfl rfl rfl ?_
  refine e_yes rfl rfl rfl ?_
  refine e_gt rfl rfl rfl ?_
  refine e_as (congrArg Value.bool (decide_eq_false (by omega))) ?_
  refine e_pickF rfl rfl rfl rfl ?_
  refine e_nil ?_
  refine e_cond rfl ?_ ?_
  · intro hc0
    cases hc0
  · intro hc0
    refine e_skip ?_
    refine e_seq ?_
    refine e_seq ?_
    refine e_plain ?_
    refine e_move rfl rfl ?_
    refine e_lenV hvt und24 rfl rfl rfl ?_
    refine e_lt rfl rfl rfl ?_
    refine e_as (congrArg Value.bool (decide_eq_false (by omega))) ?_
    refine e_nil ?_
    refine e_cond rfl ?_ ?_
    · intro hc1
      cases hc1
    · intro hc1
      refine e_skip ?_
      refine e_seq ?_
      refine e_plain ?_
      refine e_move rfl rfl ?_
      refine e_lenV hvt und24 rfl rfl rfl ?_
      refine e_sub_in (q := 16) rfl rfl rfl (by omega) (by omega) ?_
      refine e_assign rfl rfl ?_
      refine e_nil ?_
      refine e_seq ?_
      refine e_seq ?_
      refine e_draw mixed (by kernel_rfl) ?_
      refine e_move rfl rfl ?_
      refine e_move rfl rfl ?_
      refine e_sliceV (tx.length - 16) tx.length hvt und24 siz5 rfl rfl rfl ⟨_, rfl⟩ rfl (by omega) (by omega) rfl ?_
      refine e_toArrV hv2 und38 rfl (by decide) (by rw [List.length_drop]; omega) rfl ?_
      refine e_loadVS hv2 seenG und38 rfl siz38 rfl (by decide) (by simp; omega) rfl rfl ?_
      refine e_as (last_cells (by rw [List.length_drop]; omega)) ?_
      refine e_loadA (i := 0) und36 rfl siz36 rfl rfl (arr_size _ _ _) rfl ⟨[], trivial⟩ ?_
      refine e_loadA (i := 1) und23 rfl siz23 rfl rfl (arr_size _ _ _) rfl ⟨[], trivial⟩ ?_
      refine e_move rfl rfl ?_
      refine e_move rfl rfl ?_
      refine e_move rfl rfl ?_
      refine e_sliceV 0 (tx.length - 16) hvt und24 siz5 rfl rfl rfl rfl ⟨_, rfl⟩ (by omega) (by omega) rfl ?_
      refine e_call rfl ent15 (dtagOf_fn k nn va _ ad (tx.take (tx.length - 16)) hva hv1 hk hn hab (fun x hx => htb x (List.mem_of_mem_take hx)) (by omega) (by simp; omega)) rfl rfl ?_
      refine e_call rfl ent18 (dsame_fn _ _) rfl rfl ?_
      refine e_as (congrArg Value.bool (decide_eq_true ((opens_iff k nn h2 htb).2 ho))) ?_
      refine e_not rfl rfl ?_
      refine e_nil ?_
      refine e_cond rfl ?_ ?_
      · intro hc2
        cases hc2
      · intro hc2
        refine e_skip ?_
        refine e_seq ?_
        refine e_drawR ⟨[], 4, []⟩ mixed (by kernel_rfl) ?_
        refine e_loadA (i := 0) und36 rfl siz36 rfl rfl (arr_size _ _ _) rfl ⟨[], trivial⟩ ?_
        refine e_loadA (i := 1) und23 rfl siz23 rfl rfl (arr_size _ _ _) rfl ⟨[], trivial⟩ ?_
        refine e_move rfl rfl ?_
        refine e_move rfl rfl ?_
        refine e_sliceV 0 (tx.length - 16) hvt und24 siz5 rfl rfl rfl rfl ⟨_, rfl⟩ (by omega) (by omega) rfl ?_
        refine e_callN 2 (fun v => v) rfl rfl ent14 seenG (dstream_fn k nn _ (tx.take (tx.length - 16)) hk hn hv1 (by omega)) (by simp only [maxLen]; omega) (by rw [List.length_map, strl_len, Nat.mul_one, Nat.sub_zero]) rfl rfl fun v4_1 oz4_1 ho4_1 => ?_
        refine e_assign rfl rfl ?_
        refine e_assign rfl rfl ?_
        refine e_nil ?_
        refine e_ret ?_
        exact ⟨_, _, _, _, 2, rfl, .tmp rfl, .tmp rfl, (own_fix ho4_1 (by rw [htl, hol]) rfl), rfl⟩

end Go.Proofs.Ytoalabpbohkcjaa

/-
  Arguments that are arrays of numbers, by value: opened, and read again in another world.
-/
namespace Go.Proofs.Ytoalabpbohkcjaa
open Go.ChangeShapes Go.WideShapes Go.ChangeAt Go.RowKit

section
variable {H : Type} {enc : TypeId × Value → H} {P : Program} {n : Nat} {t e : TypeId} {k : IntKind}

theorem trod_int_any (he : P.underlying e = some (.int k)) (w w' : World) (b b' : Nat) (s s' : Nat → Bool) (h h' : Bool) (fuel : Nat) (cs : List Value) :
    DataW.trod enc P w b s h fuel e cs = DataW.trod enc P w' b' s' h' fuel e cs := by
  cases fuel with
  | zero => rfl
  | succ m =>
    unfold DataW.trod
    rw [he]
    match cs with
    | [] => rfl
    | [v] => cases v <;> rfl
    | v :: _ :: _ => cases v <;> rfl

theorem trod_arr_any (hT : P.underlying t = some (.array n e)) (he : P.underlying e = some (.int k)) (w w' : World) (b b' : Nat) (s s' : Nat → Bool) (h h' : Bool) (fuel : Nat) (cs : List Value) :
    DataW.trod enc P w b s h fuel t cs = DataW.trod enc P w' b' s' h' fuel t cs := by
  cases fuel with
  | zero => rfl
  | succ m =>
    unfold DataW.trod
    rw [hT]
    simp only
    congr 2
    congr 1
    funext i
    exact trod_int_any he w w' b b' s s' h h' m _

theorem Trod_arr (hT : P.underlying t = some (.array n e)) (he : P.underlying e = some (.int k)) {w : World} {b : Nat} {s : Nat → Bool} {h : Bool} {v : Value} {d : DataW H} {ps : List MemPlace}
    (hd : DataW.Trod enc P w b s h t v d ps) (w' : World) (b' : Nat) (s' : Nat → Bool) (h' : Bool) : DataW.Trod enc P w' b' s' h' t v d ps := by
  obtain ⟨fuel, hf⟩ := hd
  exact ⟨fuel, by rw [← hf]; exact trod_arr_any hT he _ _ _ _ _ _ _ _ _ _⟩

theorem open_arr {bound : Nat} (hT : P.underlying t = some (.array n e)) (he : P.underlying e = some (.int k)) (hc : P.cellsOf e = 1) (hct : P.cellsOf t = n)
    (hb : ∀ z : Int, (Lit.int k z).wf = true → 0 ≤ z ∧ z < bound) {W : World} {b0 b : Nat} {s : Nat → Bool} {h : Bool} {v : Value} {d : DataW H} {ps : List MemPlace}
    (hval : Value.okWide P W .any b0 t v) (hd : DataW.Trod enc P W b s h t v d ps) :
    ∃ f : Nat → Nat, v = .agg (arr k n f) ∧ (∀ j, j < n → f j < bound) ∧ ps = [] := by
  unfold Value.okWide at hval
  rw [hT] at hval
  obtain ⟨cs, rfl, hsz, _⟩ := hval
  rw [hct] at hsz
  obtain ⟨fuel, hf⟩ := hd
  obtain ⟨xs, m, _, ex, _, hl, hel⟩ := DataW.trod_array hT hf
  have key : ∀ i, i < n → ∃ z : Int, cs[i]? = some (.int k z) ∧ 0 ≤ z ∧ z < bound ∧ ∃ x, xs[i]? = some x ∧ x.2 = [] := fun i hi => by
    have hE := hel i hi
    have hxi : i < xs.length := by omega
    rw [hc, Nat.mul_one, List.getElem?_eq_getElem hxi] at hE
    obtain ⟨z, e1, e2, hw⟩ := DataW.trod_int he hE
    have h0 : ((cs.toList.drop i).take 1)[0]? = some (.int k z) := by
      have : (Value.agg cs).cells.toList = cs.toList := rfl
      rw [this] at e1
      rw [e1]; rfl
    refine ⟨z, by simpa using h0, (hb z hw).1, (hb z hw).2, xs[i], List.getElem?_eq_getElem hxi, by rw [e2]⟩
  refine ⟨fun i => match cs[i]? with
    | some (.int _ z) => z.toNat
    | _ => 0, ?_, fun j hj => ?_, ?_⟩
  · congr 1
    apply Array.ext_getElem?
    intro i
    by_cases hi : i < n
    · obtain ⟨z, h1, h2, _⟩ := key i hi
      rw [arr_get hi, h1]
      simp only
      congr 2
      omega
    · rw [Array.getElem?_eq_none (by omega), Array.getElem?_eq_none (by rw [arr_size]; omega)]
  · obtain ⟨z, h1, h2, h3, _⟩ := key j hj
    simp only [h1]
    omega
  · have e2 : ps = xs.flatMap (·.2) := (Prod.mk.inj ex).2
    rw [e2]
    apply List.flatMap_eq_nil_iff.2
    intro x hx
    obtain ⟨i, hi, rfl⟩ := List.getElem_of_mem hx
    obtain ⟨_, _, _, _, y, h4, h5⟩ := key i (by omega)
    rw [List.getElem?_eq_getElem hi] at h4
    rw [Option.some.inj h4]; exact h5

theorem wf_u8 (z : Int) (h : (Lit.int .u8 z).wf = true) : 0 ≤ z ∧ z < (256 : Nat) := by
  simp [Lit.wf, IntKind.min, IntKind.max, IntKind.signed, IntKind.bits] at h
  omega
theorem wf_u64 (z : Int) (h : (Lit.int .u64 z).wf = true) : 0 ≤ z ∧ z < (18446744073709551616 : Nat) := by
  simp [Lit.wf, IntKind.min, IntKind.max, IntKind.signed, IntKind.bits] at h
  omega

end
end Go.Proofs.Ytoalabpbohkcjaa

/-
  Arguments that are slices of bytes: opened.
-/
namespace Go.Proofs.Ytoalabpbohkcjaa
open Go Go.ChangeShapes Go.WideShapes Go.ChangeAt Go.RowKit

section
variable {H : Type} {enc : TypeId × Value → H} {P : Program} {t e : TypeId}
theorem row_of_cell {w : World} {b o : Nat} {u : Value} (h : w.cell? ⟨b, o, none⟩ = some u) : ∃ cs et fr, w.heap[b]? = some (.cells cs et fr) := by
  unfold World.cell? at h
  cases hb : w.heap[b]? with
  | none => simp [hb] at h
  | some ob => cases ob with
    | cells cs t fr => exact ⟨cs, t, fr, rfl⟩
    | _ => simp [hb] at h
theorem open_bytes {W : World} {b0 base : Nat} {s : Nat → Bool} {held : Bool} {v : Value} {d : DataW H} {ps : List MemPlace} (ht : P.underlying t = some (.slice e)) (he : P.underlying e = some (.int .u8)) (hc : P.cellsOf e = 1)
    (hval : Value.okWide P W .any b0 t v) (hd : DataW.Trod enc P W base s held t v d ps) :
    ∃ (l : List Nat) (G : Mem), (∀ b ∈ l, b < 256) ∧ l.length ≤ maxLen ∧ Shows G 1 v l.length (l.map by8) ∧ MemR G W := by
  have hcell : ∃ a len cap, v = .slice a len cap := by
    unfold Value.okWide at hval
    rw [ht] at hval
    unfold Cell.okWide at hval
    rw [ht] at hval
    unfold Cell.ok at hval
    rw [ht] at hval
    cases v <;> simp_all
  obtain ⟨a0, len0, cap0, rfl⟩ := hcell
  obtain ⟨fuel, hf⟩ := hd
  rcases open_ints ht he hc hf with ⟨h1, _⟩ | ⟨a, len, cap, zs, h1, _, hlc, hcm, hzl, _, hz, hw⟩
  · have h1 : [Value.slice a0 len0 cap0] = [.slice none 0 0] := h1
    injection h1 with h1 _
    rw [h1]
    exact ⟨[], [], by simp, by simp [maxLen], .inl ⟨rfl, rfl, none, 0, rfl, fun _ => rfl⟩, by simp [MemR]⟩
  · have h1 : [Value.slice a0 len0 cap0] = [.slice (some a) len cap] := h1
    injection h1 with h1 _
    rw [h1]
    have hlz : len ≤ zs.length := by rw [hzl]; split <;> omega
    by_cases h0 : len = 0
    · subst h0
      exact ⟨[], [], by simp, by simp [maxLen], .inl ⟨rfl, rfl, some a, cap, rfl, fun h => by cases h⟩, by simp [MemR]⟩
    · obtain ⟨b, off, rfl, hc2⟩ := ints_at hz (by omega)
      obtain ⟨cs, et, fr, hb⟩ := row_of_cell (hc2 0 (by omega))
      have hcl : ∀ o, W.cell? ⟨b, o, none⟩ = cs[o]? := fun o => by simp [World.cell?, hb]
      have hlen : ((zs.take len).map Int.toNat).length = len := by simp; omega
      have hwj : ∀ j, j < len → 0 ≤ zs.getD j 0 ∧ zs.getD j 0 ≤ 255 := fun j hj => bounds_u8 (hw (zs.getD j 0) (by
        have : zs.getD j 0 = zs[j] := by simp [List.getD, show j < zs.length by omega]
        rw [this]; exact List.getElem_mem _))
      have hnth : ∀ j x, ((zs.take len).map Int.toNat)[j]? = some x → j < len ∧ x = (zs.getD j 0).toNat := fun j x hj => by
        have hlt := (List.getElem?_eq_some_iff.1 hj).1
        rw [hlen] at hlt
        refine ⟨hlt, ?_⟩
        rw [List.getElem?_map, List.getElem?_take, if_pos hlt, List.getElem?_eq_getElem (by omega)] at hj
        simp at hj
        rw [← hj]
        simp [List.getD, show j < zs.length by omega]
      refine ⟨(zs.take len).map Int.toNat, [⟨b, cs, et⟩], fun q hq => ?_, by rw [hlen]; omega, .inr ⟨b, off, cap, cs, et, by rw [hlen], by rw [hlen]; exact hlc, by simp, by simp, ?_, fun j u hj => ?_⟩, fun x hx => ?_⟩
      · obtain ⟨j, hj⟩ := List.getElem?_of_mem hq
        obtain ⟨h2, rfl⟩ := hnth j q hj
        have := hwj j h2
        omega
      · have h2 := hc2 (len - 1) (by omega)
        rw [hcl] at h2
        have := (Array.getElem?_eq_some_iff.1 h2).1
        rw [hlen]
        omega
      · rw [List.getElem?_map] at hj
        cases hx : ((zs.take len).map Int.toNat)[j]? with
        | none => rw [hx] at hj; cases hj
        | some x =>
          rw [hx, Option.map_some] at hj
          obtain ⟨h2, rfl⟩ := hnth j x hx
          have h3 := hwj j h2
          injection hj with hj
          rw [← hj, ← hcl, hc2 j (by omega)]
          have e1 : (((zs.getD j 0).toNat : Nat) : Int) = zs.getD j 0 := by omega
          show some (Value.int IntKind.u8 (zs.getD j 0)) = some (Value.int IntKind.u8 (((zs.getD j 0).toNat : Nat) : Int))
          rw [e1]
      · simp at hx; subst hx
        exact ⟨(Array.getElem?_eq_some_iff.1 hb).1, fun o _ => hcl o⟩
theorem str_list (s : ByteArray) : ∃ l : List Nat, (∀ x ∈ l, x < 256) ∧ s = bstr l := by
  refine ⟨s.data.toList.map UInt8.toNat, fun x hx => ?_, ?_⟩
  · obtain ⟨b, _, rfl⟩ := List.mem_map.1 hx
    exact b.toNat_lt
  · unfold bstr
    rw [List.map_map]
    have : s.data.toList.map (UInt8.ofNat ∘ UInt8.toNat) = s.data.toList := by
      conv => rhs; rw [← List.map_id s.data.toList]
      exact List.map_congr_left fun b _ => by simp
    rw [this]
/-- A struct of three numbers and a string. -/
theorem open_raw {W : World} {b0 base : Nat} {sp : Nat → Bool} {held : Bool} {v : Value} {d : DataW H} {ps : List MemPlace} {f0 f1 f2 f3 : Field} (ht : P.underlying t = some (.struct #[f0, f1, f2, f3])) (hc : P.cellsOf t = 4)
    (o0 : f0.offset = 0) (o1 : f1.offset = 1) (o2 : f2.offset = 2) (o3 : f3.offset = 3) (u0 : P.underlying f0.type = some (.int .i64)) (u1 : P.underlying f1.type = some (.int .i64)) (u2 : P.underlying f2.type = some (.int .i64)) (u3 : P.underlying f3.type = some .string)
    (c0 : P.cellsOf f0.type = 1) (c1 : P.cellsOf f1.type = 1) (c2 : P.cellsOf f2.type = 1) (c3 : P.cellsOf f3.type = 1) (hval : Value.okWide P W .any b0 t v) (hd : DataW.Trod enc P W base sp held t v d ps) :
    ∃ (za zb zc : Int) (tx : List Nat), (∀ x ∈ tx, x < 256) ∧ v = .agg #[.int .i64 za, .int .i64 zb, .int .i64 zc, sv tx] := by
  unfold Value.okWide at hval
  rw [ht] at hval
  obtain ⟨cs, rfl, hsz, _⟩ := hval
  obtain ⟨fuel, hf⟩ := hd
  obtain ⟨xs, m, _, _, _, hxl, hel⟩ := DataW.trod_struct ht hf
  have hxl : xs.length = 4 := hxl
  have g : ∀ i, i < 4 → ∃ y, xs[i]? = some y := fun i hi => ⟨xs[i], List.getElem?_eq_getElem (by omega)⟩
  have hcs : (Value.agg cs).cells.toList = cs.toList := rfl
  rw [hc] at hsz
  obtain ⟨l, hl⟩ : ∃ l, cs = l.toArray := ⟨cs.toList, by simp⟩
  subst hl
  have hl4 : l.length = 4 := by simpa using hsz
  match l, hl4 with
  | [a, b, c, e], _ =>
    obtain ⟨y0, hy0⟩ := g 0 (by omega)
    obtain ⟨y1, hy1⟩ := g 1 (by omega)
    obtain ⟨y2, hy2⟩ := g 2 (by omega)
    obtain ⟨y3, hy3⟩ := g 3 (by omega)
    have e0 := hel 0 f0 rfl
    have e1 := hel 1 f1 rfl
    have e2 := hel 2 f2 rfl
    have e3 := hel 3 f3 rfl
    rw [hcs, o0, c0, hy0] at e0
    rw [hcs, o1, c1, hy1] at e1
    rw [hcs, o2, c2, hy2] at e2
    rw [hcs, o3, c3, hy3] at e3
    obtain ⟨za, h0, _⟩ := DataW.trod_int u0 e0
    obtain ⟨zb, h1, _⟩ := DataW.trod_int u1 e1
    obtain ⟨zc, h2, _⟩ := DataW.trod_int u2 e2
    obtain ⟨s, h3, _⟩ := DataW.trod_string u3 e3
    obtain ⟨tx, htx, hs⟩ := str_list s
    simp at h0 h1 h2 h3
    exact ⟨za, zb, zc, tx, htx, by rw [h0, h1, h2, h3, hs]⟩
theorem wf_u32 (z : Int) (h : (Lit.int .u32 z).wf = true) : ∃ c : Nat, z = (c : Int) ∧ c < 4294967296 := by
  simp [Lit.wf, IntKind.min, IntKind.max, IntKind.signed, IntKind.bits] at h
  exact ⟨z.toNat, by omega, by omega⟩
end
end Go.Proofs.Ytoalabpbohkcjaa

/-
  How long bytes are that are handed in.
-/
namespace Go.Proofs.Ytoalabpbohkcjaa
open Go Go.ChangeShapes Go.WideShapes Go.ChangeAt Go.RowKit

abbrev RB : Nat := 140737488351232
section
variable {H : Type} {enc : TypeId × Value → H} {P : Program} {t e : TypeId}
theorem shows_num {B : Mem} {z n len cap : Nat} {a : Option Addr} {xs : List Value} (h : Shows B z (.slice a len cap) n xs) : len = n := by
  rcases h with ⟨h0, _, oa, c, h1, _⟩ | ⟨b, o, c, cs, t, h1, _⟩
  · injection h1 with _ h2; rw [h2, h0]
  · injection h1
theorem open_sized {W : World} {base : Nat} {s : Nat → Bool} {held : Bool} {v : Value} {d : DataW H} {ps : List MemPlace} {B : Mem} {n : Nat} {xs : List Value} (ht : P.underlying t = some (.slice e)) (he : P.underlying e = some (.int .u8)) (hc : P.cellsOf e = 1) (hby : P.bytesOf e = 1)
    (hd : DataW.Trod enc P W base s held t v d ps) (hw : ∀ k ∈ d.weights P t, k ≤ RB) (hv : Shows B 1 v n xs) : n ≤ RB := by
  have hcell : ∃ a len cap, v = .slice a len cap := by
    rcases hv with ⟨_, _, oa, c, h1, _⟩ | ⟨b, o, c, cs, t, h1, _⟩
    · exact ⟨_, _, _, h1⟩
    · exact ⟨_, _, _, h1⟩
  obtain ⟨a0, len0, cap0, rfl⟩ := hcell
  have hn := shows_num hv
  subst hn
  obtain ⟨fuel, hf⟩ := hd
  rcases open_ints ht he hc hf with ⟨h1, _⟩ | ⟨a, len, cap, zs, h1, _, hlc, hcm, hzl, hx, hz, _⟩
  · have h1 : [Value.slice a0 len0 cap0] = [.slice none 0 0] := h1
    injection h1 with h1 _
    injection h1 with _ h2
    omega
  · have h1 : [Value.slice a0 len0 cap0] = [.slice (some a) len cap] := h1
    injection h1 with h1 _
    injection h1 with _ h2
    have hlz : len ≤ zs.length := by rw [hzl]; split <;> omega
    injection hx with hx _
    subst hx
    have := hw ((lits .u8 (zs.take len)).length * 1 + (lits .u8 (zs.drop len)).length * 1) (by
      simp only [DataW.weights, ht, hby]
      rw [← Nat.add_mul]
      exact List.mem_cons_self)
    have hl : (lits (H := H) .u8 (zs.take len)).length = len := by simp [lits]; omega
    rw [hl] at this
    omega
theorem each_sized {ts : List TypeId} {ds : List (DataW H)} (h : (DataW.weightsEach P ts ds).all (· ≤ reachBytes) = true) {j : Nat} {t : TypeId} {d : DataW H} (ht : ts[j]? = some t) (hd : ds[j]? = some d) : ∀ n ∈ d.weights P t, n ≤ RB := fun n hn => by
  have := List.all_eq_true.1 h _ (DataW.weights_mem_each ht hd n hn)
  exact of_decide_eq_true this
end
end Go.Proofs.Ytoalabpbohkcjaa
