import Derived.Test.YtpmgjnfllnokjaaDoorKZ6
import Derived.Test.YtpmgjnfllnokjaaDoorKZ4
import Derived.Test.YtpmgjnfllnokjaaDoorKZ5

/-
  Walks, written by a program of ours off the loaded functions.
-/
namespace Go.Proofs.YtpmgjnfllnokjaaDoor
open Go Go.RowKit


theorem mix_fn {G : Mem} (f : Nat → Nat) (r a b c d x y : Nat) (ha : a < 16) (hb : b < 16) (hc : c < 16) (hd : d < 16) (ab : a ≠ b) (ac : a ≠ c) (ad : a ≠ d) (bc : b ≠ c) (bd : b ≠ d) (cd : c ≠ d) : Fx Tryd.prog G [⟨r, arr .u32 16 f, 62⟩] 37 #[ii a, ii b, ii c, ii d, uw x, uw y, ptr r] (fun v l1 nw => v = .tuple #[] ∧ l1 = [⟨r, arr .u32 16 (mat f a b c d x y), 62⟩] ∧ nw = []) := by
  rw [← mst_mat f x y ab ac ad bc bd cd]
  exact mix_st f r a b c d x y ha hb hc hd
abbrev DOR : Blk := ⟨1, arr .i64 160 sgf, 75⟩

theorem ent37 : enters Tryd.prog 37 = true := by kernel_rfl
theorem siz62 : (Tryd.prog.info? 62).map (·.size) = some 16 := by kernel_rfl
theorem siz74 : (Tryd.prog.info? 74).map (·.size) = some 16 := by kernel_rfl
theorem und74 : Tryd.prog.underlying 74 = some (.array 16 3) := by kernel_rfl
theorem und75 : Tryd.prog.underlying 75 = some (.array 10 74) := by kernel_rfl
theorem zer62 : (Tryd.prog.info? 62).bind (·.zero) = some (.agg (arr .u32 16 fun _ => 0)) := by kernel_rfl

variable {G : Mem}

set_option maxHeartbeats 4000000 in
theorem rounds6_fn (f g : Nat → Nat) : Fn Tryd.prog (DOR :: G) 29 #[.agg (arr .u32 16 f), .agg (arr .u32 16 g)] (.agg (arr .u32 16 (rndM g f 10))) := by
  refine fn1 (n := 82) Tryd.func29 rfl rfl (by simp) (argE [.agg (arr .u32 16 f), .agg (arr .u32 16 g)] 0) (argE_ok _) ?_
  refine e_seq ?_
  refine e_plain ?_
  refine e_box 0 rfl rfl fun r1 => ?_
  refine e_box 1 rfl rfl fun r2 => ?_
  refine e_alloc 2 zer62 rfl fun r3 => ?_
  refine e_nil ?_
  refine e_seq ?_
  refine e_plain ?_
  refine e_func rfl rfl rfl ?_
  refine e_assign rfl rfl ?_
  refine e_nil ?_
  refine e_seq ?_
  refine e_seq ?_
  refine e_plain ?_
  refine e_move rfl rfl ?_
  refine e_nil ?_
  refine e_block ?_
  refine e_loopK [(2, _), (3, _), (4, _), (5, _)] [(1, _), (2, _)] (fun kk E m => ∃ (r : Nat), kk = 10 - r ∧ E = [(10, ii r)] ∧ m = [(0, some ⟨r1, arr .u32 16 (rndM g f r), 62⟩)] ∧ (r ≤ 10)) [(10, ii 0)] [(0, some ⟨r1, arr .u32 16 (rndM g f 0), 62⟩)] (10 - 0) ⟨rfl, rfl, rfl, rfl, rfl, trivial⟩ ⟨(blk_arr (rndM_zero g f)), rfl, rfl, trivial⟩ ⟨0, rfl, rfl, rfl, by omega⟩ ?_
  rintro kk E m ⟨r, rfl, rfl, rfl, hf0_0⟩
  simp only [catE, catL]
  refine e_seq ?_
  refine e_plain ?_
  refine e_lt rfl rfl rfl ?_
  refine e_nil ?_
  refine e_seq ?_
  refine e_cond rfl ?_ ?_
  · intro hc0
    have hc0 : r < 10 := by have := of_decide_eq_true hc0; omega
    refine e_skip ?_
    refine e_seq ?_
    refine e_block ?_
    refine e_seq ?_
    refine e_plain ?_
    refine e_move rfl rfl ?_
    refine e_assign rfl rfl ?_
    refine e_nil ?_
    refine e_seq ?_
    refine e_seq ?_
    refine e_plain ?_
    refine e_move rfl rfl ?_
    refine e_nil ?_
    refine e_block ?_
    refine e_loopK [(2, _), (3, _), (4, _), (5, _), (6, _), (10, _)] [(1, _), (2, _)] (fun kk E m => ∃ (i : Nat), kk = 4 - i ∧ E = [(13, ii i)] ∧ m = [(0, some ⟨r1, arr .u32 16 (colM g r (rndM g f r) i), 62⟩)] ∧ (i ≤ 4)) [(13, ii 0)] [(0, some ⟨r1, arr .u32 16 (colM g r (rndM g f r) 0), 62⟩)] (4 - 0) ⟨rfl, rfl, rfl, rfl, rfl, rfl, rfl, trivial⟩ ⟨(blk_arr (colM_zero g r (rndM g f r))), rfl, rfl, trivial⟩ ⟨0, rfl, rfl, rfl, by omega⟩ ?_
    rintro kk E m ⟨i, rfl, rfl, rfl, hf1_0⟩
    simp only [catE, catL]
    refine e_seq ?_
    refine e_plain ?_
    refine e_lt rfl rfl rfl ?_
    refine e_nil ?_
    refine e_seq ?_
    refine e_cond rfl ?_ ?_
    · intro hc1
      have hc1 : i < 4 := by have := of_decide_eq_true hc1; omega
      refine e_skip ?_
      refine e_seq ?_
      refine e_block ?_
      refine e_seq ?_
      refine e_plain ?_
      refine e_move rfl rfl ?_
      refine e_assign rfl rfl ?_
      refine e_nil ?_
      refine e_drawR ⟨[], 5, []⟩ mixed (by kernel_rfl) ?_
      refine e_move rfl rfl ?_
      refine e_move rfl rfl ?_
      refine e_move rfl rfl ?_
      refine e_add_i (p := 4) rfl rfl rfl (by omega) ?_
      refine e_move rfl rfl ?_
      refine e_add_i (p := 8) rfl rfl rfl (by omega) ?_
      refine e_move rfl rfl ?_
      refine e_add_i (p := 12) rfl rfl rfl (by omega) ?_
      refine e_move rfl rfl ?_
      refine e_move rfl rfl ?_
      refine e_mul_i (p := 2) rfl rfl rfl (by omega) ?_
      refine e_at (16 * r) und75 siz74 rfl rfl (by omega) (by omega) rfl ?_
      refine e_at (16 * r + 2 * i) und74 siz3 rfl rfl (by omega) (by omega) rfl ?_
      refine e_load1g (i := 0) und3 rfl rfl rfl (arr_get (by omega)) rfl ?_
      refine e_index0 und62 siz44 rfl rfl (sig_lt r (2 * i)) rfl ?_
      refine e_load1 (i := 1) und44 rfl rfl rfl (arr_get (sig_lt r (2 * i))) rfl ⟨[], trivial⟩ ?_
      refine e_move rfl rfl ?_
      refine e_move rfl rfl ?_
      refine e_mul_i (p := 2) rfl rfl rfl (by omega) ?_
      refine e_add_i (q := 1) rfl rfl rfl (by omega) ?_
      refine e_at (16 * r) und75 siz74 rfl rfl (by omega) (by omega) rfl ?_
      refine e_at (16 * r + (2 * i + 1)) und74 siz3 rfl rfl (by omega) (by omega) rfl ?_
      refine e_load1g (i := 0) und3 rfl rfl rfl (arr_get (by omega)) rfl ?_
      refine e_index0 und62 siz44 rfl rfl (sig_lt r (2 * i + 1)) rfl ?_
      refine e_load1 (i := 1) und44 rfl rfl rfl (arr_get (sig_lt r (2 * i + 1))) rfl ⟨[], trivial⟩ ?_
      refine e_callW 0 rfl rfl ent37 rfl (by simp) (mix_fn (G := []) (colM g r (rndM g f r) i) r1 i (4 + i) (8 + i) (12 + i) (g (sig r (2 * i))) (g (sig r (2 * i + 1))) (by omega) (by omega) (by omega) (by omega) (by omega) (by omega) (by omega) (by omega) (by omega) (by omega)) rfl rfl ?_
      refine e_nil ?_
      refine e_plain ?_
      refine e_add_i (q := 1) rfl rfl rfl (by omega) ?_
      refine e_move rfl rfl ?_
      refine e_nil ?_
      refine ⟨_, [(13, ii (i + 1))], [(0, some ⟨r1, arr .u32 16 (colM g r (rndM g f r) (i + 1)), 62⟩)], ?_, ⟨rfl, rfl, rfl, rfl, rfl, rfl, rfl, trivial⟩, ⟨(blk_arr (colM_succ g r (rndM g f r) i)), rfl, rfl, trivial⟩, i + 1, rfl, rfl, rfl, by omega⟩
      omega
    · intro hc1
      have hc1 := of_decide_eq_false hc1
      have hz1 : i = 4 := by omega
      refine e_exit ?_
      refine e_seq ?_
      refine e_plain ?_
      refine e_move rfl rfl ?_
      refine e_nil ?_
      refine e_block ?_
      refine e_loopK [(2, _), (3, _), (4, _), (5, _), (6, _), (10, _), (13, _)] [(1, _), (2, _)] (fun kk E m => ∃ (j : Nat), kk = 4 - j ∧ E = [(43, ii j)] ∧ m = [(0, some ⟨r1, arr .u32 16 (diaM g r (colM g r (rndM g f r) 4) j), 62⟩)] ∧ (j ≤ 4)) [(43, ii 0)] [(0, some ⟨r1, arr .u32 16 (diaM g r (colM g r (rndM g f r) 4) 0), 62⟩)] (4 - 0) ⟨rfl, rfl, rfl, rfl, rfl, rfl, rfl, rfl, trivial⟩ ⟨(blk_arr ((congrArg (colM g r (rndM g f r)) hz1).trans (diaM_zero g r (colM g r (rndM g f r) 4)))), rfl, rfl, trivial⟩ ⟨0, rfl, rfl, rfl, by omega⟩ ?_
      rintro kk E m ⟨j, rfl, rfl, rfl, hf2_0⟩
      simp only [catE, catL]
      refine e_seq ?_
      refine e_plain ?_
      refine e_lt rfl rfl rfl ?_
      refine e_nil ?_
      refine e_seq ?_
      refine e_cond rfl ?_ ?_
      · intro hc2
        have hc2 : j < 4 := by have := of_decide_eq_true hc2; omega
        refine e_skip ?_
        refine e_seq ?_
        refine e_block ?_
        refine e_seq ?_
        refine e_plain ?_
        refine e_move rfl rfl ?_
        refine e_assign rfl rfl ?_
        refine e_nil ?_
        refine e_drawR ⟨[], 5, []⟩ mixed (by kernel_rfl) ?_
        refine e_move rfl rfl ?_
        refine e_move rfl rfl ?_
        refine e_move rfl rfl ?_
        refine e_add_i (q := 1) rfl rfl rfl (by omega) ?_
        refine e_rem_i (q := 4) rfl rfl rfl (by omega) ?_
        refine e_add_i (p := 4) rfl rfl rfl (by omega) ?_
        refine e_move rfl rfl ?_
        refine e_add_i (q := 2) rfl rfl rfl (by omega) ?_
        refine e_rem_i (q := 4) rfl rfl rfl (by omega) ?_
        refine e_add_i (p := 8) rfl rfl rfl (by omega) ?_
        refine e_move rfl rfl ?_
        refine e_add_i (q := 3) rfl rfl rfl (by omega) ?_
        refine e_rem_i (q := 4) rfl rfl rfl (by omega) ?_
        refine e_add_i (p := 12) rfl rfl rfl (by omega) ?_
        refine e_move rfl rfl ?_
        refine e_move rfl rfl ?_
        refine e_mul_i (p := 2) rfl rfl rfl (by omega) ?_
        refine e_add_i (p := 8) rfl rfl rfl (by omega) ?_
        refine e_at (16 * r) und75 siz74 rfl rfl (by omega) (by omega) rfl ?_
        refine e_at (16 * r + (8 + 2 * j)) und74 siz3 rfl rfl (by omega) (by omega) rfl ?_
        refine e_load1g (i := 0) und3 rfl rfl rfl (arr_get (by omega)) rfl ?_
        refine e_index0 und62 siz44 rfl rfl (sig_lt r (8 + 2 * j)) rfl ?_
        refine e_load1 (i := 1) und44 rfl rfl rfl (arr_get (sig_lt r (8 + 2 * j))) rfl ⟨[], trivial⟩ ?_
        refine e_move rfl rfl ?_
        refine e_move rfl rfl ?_
        refine e_mul_i (p := 2) rfl rfl rfl (by omega) ?_
        refine e_add_i (p := 9) rfl rfl rfl (by omega) ?_
        refine e_at (16 * r) und75 siz74 rfl rfl (by omega) (by omega) rfl ?_
        refine e_at (16 * r + (9 + 2 * j)) und74 siz3 rfl rfl (by omega) (by omega) rfl ?_
        refine e_load1g (i := 0) und3 rfl rfl rfl (arr_get (by omega)) rfl ?_
        refine e_index0 und62 siz44 rfl rfl (sig_lt r (9 + 2 * j)) rfl ?_
        refine e_load1 (i := 1) und44 rfl rfl rfl (arr_get (sig_lt r (9 + 2 * j))) rfl ⟨[], trivial⟩ ?_
        refine e_callW 0 rfl rfl ent37 rfl (by simp) (mix_fn (G := []) (diaM g r (colM g r (rndM g f r) 4) j) r1 j (4 + (j + 1) % 4) (8 + (j + 2) % 4) (12 + (j + 3) % 4) (g (sig r (8 + 2 * j))) (g (sig r (9 + 2 * j))) (by omega) (by omega) (by omega) (by omega) (by omega) (by omega) (by omega) (by omega) (by omega) (by omega)) rfl rfl ?_
        refine e_nil ?_
        refine e_plain ?_
        refine e_add_i (q := 1) rfl rfl rfl (by omega) ?_
        refine e_move rfl rfl ?_
        refine e_nil ?_
        refine ⟨_, [(43, ii (j + 1))], [(0, some ⟨r1, arr .u32 16 (diaM g r (colM g r (rndM g f r) 4) (j + 1)), 62⟩)], ?_, ⟨rfl, rfl, rfl, rfl, rfl, rfl, rfl, rfl, trivial⟩, ⟨(blk_arr (diaM_succ g r (colM g r (rndM g f r) 4) j)), rfl, rfl, trivial⟩, j + 1, rfl, rfl, rfl, by omega⟩
        omega
      · intro hc2
        have hc2 := of_decide_eq_false hc2
        have hz2 : j = 4 := by omega
        refine e_exit ?_
        refine e_plain ?_
        refine e_add_i (q := 1) rfl rfl rfl (by omega) ?_
        refine e_move rfl rfl ?_
        refine e_nil ?_
        refine ⟨_, [(10, ii (r + 1))], [(0, some ⟨r1, arr .u32 16 (rndM g f (r + 1)), 62⟩)], ?_, ⟨rfl, rfl, rfl, rfl, rfl, trivial⟩, ⟨(blk_arr ((congrArg (diaM g r (colM g r (rndM g f r) 4)) hz2).trans (rndM_succ g f r))), rfl, rfl, trivial⟩, r + 1, rfl, rfl, rfl, by omega⟩
        omega
  · intro hc0
    have hc0 := of_decide_eq_false hc0
    have hz0 : r = 10 := by omega
    refine e_exit ?_
    refine e_seq ?_
    refine e_plain ?_
    refine e_loadA (i := 0) und62 rfl siz62 rfl rfl (arr_size _ _ _) rfl ⟨[], trivial⟩ ?_
    refine e_storeA (i := 2) siz62 rfl rfl (arr_size _ _ _) arr_one rfl (arr_sz _ _ _ _ _) (.inl rfl) ?_
    refine e_nil ?_
    refine e_ret ?_
    rw [show rndM g f 10 = rndM g f r by rw [hz0]]
    exact ⟨_, rfl, .cell (i := 2) rfl rfl und62 rfl siz62 (arr_size _ _ _)⟩

set_option maxHeartbeats 2000000 in
theorem words_fn (d : Nat → Nat) (hd : ∀ j, j < 64 → d j < 256) : Fn Tryd.prog G 31 #[.agg (arr .u8 64 d)] (.agg (arr .u32 16 (wrd ((List.range 64).map d)))) := by
  refine fn1 (n := 25) Tryd.func31 rfl rfl (by simp) (argE [.agg (arr .u8 64 d)] 0) (argE_ok _) ?_
  refine e_seq ?_
  refine e_plain ?_
  refine e_box 0 rfl rfl fun r1 => ?_
  refine e_alloc 1 zer62 rfl fun r2 => ?_
  refine e_nil ?_
  refine e_seq ?_
  refine e_plain ?_
  refine e_alloc 2 zer62 rfl fun r3 => ?_
  refine e_nil ?_
  refine e_seq ?_
  refine e_seq ?_
  refine e_plain ?_
  refine e_loadA (i := 0) und34 rfl siz34 rfl rfl (arr_size _ _ _) rfl ⟨[], trivial⟩ ?_
  refine e_move rfl rfl ?_
  refine e_nil ?_
  refine e_block ?_
  refine e_loopK [(2, _), (3, _), (6, _)] [(0, _), (1, _)] (fun kk E m => ∃ (i : Nat) (s : Nat → Nat), kk = 64 - i ∧ E = [(7, ii i)] ∧ m = [(2, some ⟨r3, arr .u32 16 s, 62⟩)] ∧ (i ≤ 64) ∧ (∀ t, t < 16 → s t = pw d i t)) [(7, ii 0)] [(2, some ⟨r3, arr .u32 16 (fun _ => 0), 62⟩)] (64 - 0) ⟨rfl, rfl, rfl, rfl, trivial⟩ ⟨rfl, rfl, rfl, trivial⟩ ⟨0, fun _ => 0, rfl, rfl, rfl, by omega, fun t _ => (pw_none d t).symm⟩ ?_
  rintro kk E m ⟨i, s, rfl, rfl, rfl, hf0_0, hf0_1⟩
  simp only [catE, catL]
  refine e_seq ?_
  refine e_plain ?_
  refine e_lt rfl rfl rfl ?_
  refine e_nil ?_
  refine e_seq ?_
  refine e_cond rfl ?_ ?_
  · intro hc0
    have hc0 : i < 64 := by have := of_decide_eq_true hc0; omega
    refine e_skip ?_
    refine e_seq ?_
    refine e_block ?_
    refine e_seq ?_
    refine e_plain ?_
    refine e_move rfl rfl ?_
    refine e_idx und34 und5 siz5 rfl rfl (by omega) rfl ?_
    refine e_assign rfl rfl ?_
    refine e_assign rfl rfl ?_
    refine e_nil ?_
    refine e_draw mixed (by kernel_rfl) ?_
    refine e_move rfl rfl ?_
    refine e_quo_i (q := 4) rfl rfl rfl (by omega) (by omega) ?_
    refine e_index0 und62 siz44 rfl rfl (by omega) rfl ?_
    refine e_load1 (i := 2) und44 rfl rfl rfl (arr_get (by omega)) rfl ⟨[], trivial⟩ ?_
    refine e_move rfl rfl ?_
    refine e_conv_w und5 und44 rfl rfl rfl ?_
    refine e_as (congrArg uw (Nat.mod_eq_of_lt (Nat.lt_trans (hd i (by omega)) (by decide)))) ?_
    refine e_move rfl rfl ?_
    refine e_rem_i (q := 4) rfl rfl rfl (by omega) ?_
    refine e_mul_i (q := 8) rfl rfl rfl (by omega) ?_
    refine e_shl_w rfl rfl rfl (by omega) ?_
    refine e_or_w rfl rfl rfl  ?_
    refine e_index0 und62 siz44 rfl rfl (by omega) rfl ?_
    refine e_storeN (i := 2) siz44 rfl rfl rfl (by omega) (.inl rfl) ?_
    refine e_nil ?_
    refine e_plain ?_
    refine e_add_i (q := 1) rfl rfl rfl (by omega) ?_
    refine e_move rfl rfl ?_
    refine e_nil ?_
    refine ⟨_, [(7, ii (i + 1))], [(2, some ⟨r3, arr .u32 16 (upd s (i / 4) _), 62⟩)], ?_, ⟨rfl, rfl, rfl, rfl, trivial⟩, ⟨rfl, rfl, rfl, trivial⟩, i + 1, upd s (i / 4) _, rfl, rfl, rfl, by omega, words_step hd (by omega) hf0_1⟩
    omega
  · intro hc0
    have hc0 := of_decide_eq_false hc0
    have hz0 : i = 64 := by omega
    subst hz0
    refine e_exit ?_
    refine e_seq ?_
    refine e_plain ?_
    refine e_loadA (i := 2) und62 rfl siz62 rfl rfl (arr_size _ _ _) rfl ⟨[], trivial⟩ ?_
    refine e_storeA (i := 1) siz62 rfl rfl (arr_size _ _ _) arr_one rfl (arr_sz _ _ _ _ _) (.inl rfl) ?_
    refine e_nil ?_
    refine e_ret ?_
    rw [← arr_congr (k := .u32) (n := 16) (words_all d), ← arr_congr (k := .u32) (n := 16) hf0_1]
    exact ⟨_, rfl, .cell (i := 1) rfl rfl und62 rfl siz62 (arr_size _ _ _)⟩

set_option maxHeartbeats 400000 in
theorem div_fn : Fn Tryd.prog G 24 #[] (.agg (arr .u32 8 ivf)) := by
  refine fn1 (n := 2) Tryd.func24 rfl rfl (by simp) (argE [] 0) (argE_ok _) ?_
  refine e_seq ?_
  refine e_plain ?_
  refine e_alloc 0 zer45 rfl fun r1 => ?_
  refine e_nil ?_
  refine e_seq ?_
  refine e_plain ?_
  refine e_build (arr .u32 8 ivf) zer45 und45 siz44 rfl (by kernel_rfl) rfl ?_
  refine e_storeA (i := 0) siz45 rfl rfl (arr_size _ _ _) arr_one rfl (arr_sz _ _ _ _ _) (.inl rfl) ?_
  refine e_nil ?_
  refine e_ret ?_
  exact ⟨_, rfl, .cell (i := 0) rfl rfl und45 rfl siz45 (arr_size _ _ _)⟩

end Go.Proofs.YtpmgjnfllnokjaaDoor

/-
  Blocks whose parts are the same, place by place, are the same.
-/
namespace Go.Proofs.YtpmgjnfllnokjaaDoor
open Go Go.RowKit

/-- Rows that show the same. -/
def catEq : List Part → List Part → Prop
  | [], [] => True
  | p :: ps, q :: qs => p.1 = q.1 ∧ (∀ i, i < p.1 → p.2 i = q.2 i) ∧ catEq ps qs
  | _, _ => False
theorem catF_congr : ∀ {ps qs : List Part}, catEq ps qs → ∀ i, catF ps i = catF qs i
  | [], [], _, _ => rfl
  | p :: ps, q :: qs, ⟨h1, h2, h3⟩, i => by
    simp only [catF]
    rw [← h1]
    by_cases h : i < p.1
    · rw [if_pos h, if_pos h, h2 i h]
    · rw [if_neg h, if_neg h, catF_congr h3]
theorem cells_congr {N : Nat} {ps qs : List Part} (h : catEq ps qs) : cells N ps = cells N qs := by
  unfold cells
  rw [funext (catF_congr h)]
end Go.Proofs.YtpmgjnfllnokjaaDoor

/-
  The words that the program mixes are the document's; and what it holds when so many bytes were taken in. Plain arithmetic.
-/
namespace Go.Proofs.YtpmgjnfllnokjaaDoor
open Go Go.RowKit
theorem spr_zero {x : Nat} (h : x < 4294967296) : (x ^^^ 0 % 4294967296) % 4294967296 = x := by simp; omega
theorem spr_false {h s : Nat → Nat} {many : Nat} (hs : ∀ t, t < 16 → s t = if t % 8 < 8 then w00 h t else 0) : ∀ t, t < 16 → upd (upd s 12 ((s 12 ^^^ many % 4294967296) % 4294967296)) 13 ((upd s 12 ((s 12 ^^^ many % 4294967296) % 4294967296) 13 ^^^ 0 % 4294967296) % 4294967296) t = w0 h many false t := fun t ht => by
  have e : upd s 12 ((s 12 ^^^ many % 4294967296) % 4294967296) 13 = ivf 5 := by
    rw [updN _ _ (by decide), hs 13 (by decide), if_pos (by decide)]; rfl
  rw [e, spr_zero (ivf_lt 5)]
  by_cases h1 : t = 13
  · rw [h1, updS]; rfl
  · rw [updN _ _ h1]; exact w0_false hs t ht
theorem spr_true {h s : Nat → Nat} {many : Nat} (hs : ∀ t, t < 16 → s t = if t % 8 < 8 then w00 h t else 0) : ∀ t, t < 16 → upd (upd (upd s 12 ((s 12 ^^^ many % 4294967296) % 4294967296)) 13 ((upd s 12 ((s 12 ^^^ many % 4294967296) % 4294967296) 13 ^^^ 0 % 4294967296) % 4294967296)) 14 ((4294967295 ^^^ upd (upd s 12 ((s 12 ^^^ many % 4294967296) % 4294967296)) 13 ((upd s 12 ((s 12 ^^^ many % 4294967296) % 4294967296) 13 ^^^ 0 % 4294967296) % 4294967296) 14) % 4294967296) t = w0 h many true t := fun t ht => by
  have e := spr_false (many := many) hs
  by_cases h1 : t = 14
  · rw [h1, updS, e 14 (by decide)]; rfl
  · rw [updN _ _ h1, e t ht]
    unfold w0
    by_cases h2 : t = 12
    · rw [if_pos h2, if_pos h2]
    · rw [if_neg h2, if_neg h2, if_neg (by simp), if_neg (by simp [h1])]

/-! ### Sums that may be -/
theorem okB_of {n ln : Nat} {d : Nat → Nat} : okB n ln d = true ↔ (∀ j, n ≤ j → j < 64 → d j = 0) ∧ n = nbl ln := by
  unfold okB
  rw [Bool.and_eq_true, List.all_eq_true, decide_eq_true_iff]
  constructor
  · rintro ⟨h1, h2⟩
    refine ⟨fun j hj hj2 => ?_, h2⟩
    have := h1 j (List.mem_range.2 hj2)
    have hn : ¬ j < n := by omega
    simpa [hn] using this
  · rintro ⟨h1, h2⟩
    refine ⟨fun j hj => ?_, h2⟩
    by_cases hn : j < n
    · simp [hn]
    · simp [h1 j (by omega) (List.mem_range.1 hj)]
theorem okB_false {n ln : Nat} {d : Nat → Nat} (h : ¬ okB n ln d = true) : okB n ln d = false := by
  cases e : okB n ln d with
  | true => exact absurd e h
  | false => rfl
theorem okB_n1 {n ln : Nat} {d : Nat → Nat} (h : ¬ (ln - n) % 64 = 0) : okB n ln d = false := okB_false fun e => by
  have := (okB_open e).2.2.2.1
  omega
theorem okB_n2 {n ln : Nat} {d : Nat → Nat} (h0 : n = 0) (h1 : ln ≠ 0) : okB n ln d = false := okB_false fun e => by
  have := (okB_of.1 e).2
  unfold nbl at this
  split at this <;> omega
theorem okB_n3 {n ln i : Nat} {d : Nat → Nat} (hi : n + i < 64) (h : d (n + i) ≠ 0) : okB n ln d = false := okB_false fun e => h ((okB_of.1 e).1 _ (by omega) hi)
theorem okB_n4 {n ln : Nat} {d : Nat → Nat} (h : ln < n) : okB n ln d = false := okB_false fun e => by
  have := (okB_open e).2.1
  omega
theorem okB_y {n ln k : Nat} {d : Nat → Nat} (hn : n ≤ 64) (hnl : n ≤ ln) (hm : (ln - n) % 64 = 0) (h0 : ¬ (n = 0 ∧ ln ≠ 0)) (hk : k = 64 - n) (h : ∀ t, t < k → d (n + t) = 0) : okB n ln d = true := okB_of.2 ⟨fun j hj hj2 => by
  have := h (j - n) (by omega)
  rw [show n + (j - n) = j by omega] at this
  exact this, by unfold nbl; split <;> omega⟩
theorem bool_n2 {n ln : Nat} (h : (decide ((n : Int) = 0) && decide ((ln : Int) ≠ 0)) = true) : n = 0 ∧ ln ≠ 0 := by
  rw [Bool.and_eq_true, decide_eq_true_iff, decide_eq_true_iff] at h
  omega
theorem bool_y2 {n ln : Nat} (h : (decide ((n : Int) = 0) && decide ((ln : Int) ≠ 0)) = false) : ¬ (n = 0 ∧ ln ≠ 0) := fun ⟨h1, h2⟩ => by
  rw [decide_eq_true (by omega), decide_eq_true (by omega)] at h
  cases h

/-! ### The bytes of words -/
theorem hol_at (w : Nat → Nat) : ∀ n i, i < 4 * n → (hol w n).getD i 0 = w (i / 4) / 256 ^ (i % 4) % 256
  | 0, i, h => by omega
  | n + 1, i, h => by
    rw [hol, List.getD_eq_getElem?_getD]
    by_cases hi : i < 4 * n
    · rw [List.getElem?_append_left (by rw [hol_len]; exact hi), ← List.getD_eq_getElem?_getD, hol_at w n i hi]
    · rw [List.getElem?_append_right (by rw [hol_len]; omega), hol_len, List.getElem?_eq_getElem (by rw [lowl_len]; omega)]
      rw [show i / 4 = n by omega, show i % 4 = i - 4 * n by omega]
      simp [lowl]
theorem hsum_at (w : Nat → Nat) {i : Nat} (hi : i < 32) : w (i / 4) / 2 ^ (i % 4 * 8) % 256 = hsumf w i := by
  unfold hsumf
  rw [hol_at w 8 i (by omega), Nat.mul_comm (i % 4) 8, Nat.pow_mul]

/-! ### Bytes that are taken in -/
/-- What is held when p bytes of S were taken in. -/
def heldP (S : List Nat) (p j : Nat) : Nat := if j < p - 64 * nblk p then S.getD (64 * nblk p + j) 0 else 0
def AddInv (h d : Nat → Nat) (n ln : Nat) (l : List Nat) (hh g : Nat → Nat) (nn q : Nat) : Prop :=
  ln ≤ q ∧ q ≤ ln + l.length ∧ hh = hacc h (ln - n) (sS d n l) (nblk (n + (q - ln))) ∧ (∀ j, j < 64 → g j = heldP (sS d n l) (n + (q - ln)) j) ∧ nn = n + (q - ln) - 64 * nblk (n + (q - ln))
theorem sS_low (d : Nat → Nat) {n j : Nat} (l : List Nat) (h : j < n) : (sS d n l).getD j 0 = d j := by
  unfold sS
  rw [List.getD_eq_getElem?_getD, List.getElem?_append_left (by simpa using h), List.getElem?_map, List.getElem?_range h]
  rfl
theorem sS_high (d : Nat → Nat) (n j : Nat) (l : List Nat) : (sS d n l).getD (n + j) 0 = l.getD j 0 := by
  unfold sS
  rw [List.getD_eq_getElem?_getD, List.getElem?_append_right (by simp), List.length_map, List.length_range, Nat.add_sub_cancel_left, ← List.getD_eq_getElem?_getD]
theorem drop_at (l : List Nat) (c j : Nat) : (l.drop c).getD j 0 = l.getD (c + j) 0 := by
  rw [List.getD_eq_getElem?_getD, List.getElem?_drop, ← List.getD_eq_getElem?_getD]
theorem add_first {h d : Nat → Nat} {n ln : Nat} (l : List Nat) (hok : okB n ln d = true) : AddInv h d n ln l h d n ln := by
  obtain ⟨_, hnl, hn, _, hz⟩ := okB_open hok
  have hb : nblk (n + (ln - ln)) = 0 := by unfold nblk; omega
  refine ⟨Nat.le_refl _, by omega, by rw [hb]; rfl, fun j hj => ?_, by rw [hb]; omega⟩
  unfold heldP
  rw [hb]
  by_cases h1 : j < n
  · rw [if_pos (by omega), show 64 * 0 + j = j by omega, sS_low d l h1]
  · rw [if_neg (by omega), hz j (by omega) hj]
theorem add_lt {h d hh g : Nat → Nat} {n ln nn q : Nat} {l : List Nat} (hd : ∀ j, j < 64 → d j < 256) (hn : n ≤ 64) (hl : ∀ b ∈ l, b < 256) (hi : AddInv h d n ln l hh g nn q) : ∀ j, j < 64 → g j < 256 := fun j hj => by
  rw [hi.2.2.2.1 j hj]
  unfold heldP
  split
  · exact getD_lt (sS_lt (n := n) (fun j hj => hd j (by omega)) hl) _
  · decide
theorem add_nn {h d hh g : Nat → Nat} {n ln nn q : Nat} {l : List Nat} (hi : AddInv h d n ln l hh g nn q) : nn ≤ 64 := by
  rw [hi.2.2.2.2]; unfold nblk; omega
/-- A block is full: it is squeezed in, and the next one is begun. -/
theorem add_full {h d hh g : Nat → Nat} {n ln nn q : Nat} {l : List Nat} (hnl : n ≤ ln) (hi : AddInv h d n ln l hh g nn q) (hN : nn = 64) (hm : (ln - n) % 64 = 0) {k : Nat} (hk : k = min (l.drop (q - ln)).length 64) (h0 : 0 < (l.drop (q - ln)).length) {hh' g' : Nat → Nat} {nn' q' : Nat} (e1 : hh' = sqz hh ((List.range 64).map g) q false) (e2 : ∀ j, j < 64 → g' j = if 0 ≤ j ∧ j < 0 + k then (l.drop (q - ln)).getD (j - 0) 0 else 0) (e3 : nn' = 0 + k) (e4 : q' = q + k) : AddInv h d n ln l hh' g' nn' q' := by
  obtain ⟨i1, i2, i3, i4, i5⟩ := hi
  rw [List.length_drop] at hk h0
  obtain ⟨B, hB⟩ : ∃ B, B = nblk (n + (q - ln)) := ⟨_, rfl⟩
  have hp : n + (q - ln) = 64 * (B + 1) := by have := hB; unfold nblk at this; omega
  have hp' : n + (q' - ln) = 64 * (B + 1) + k := by omega
  have hB' : nblk (n + (q' - ln)) = B + 1 := by unfold nblk; omega
  have hfull : (List.range 64).map g = ((sS d n l).drop (64 * B)).take 64 := by
    apply List.ext_getElem
    · simp [sS_len]; omega
    · intro j h1 h2
      simp only [List.getElem_map, List.getElem_range, List.getElem_take, List.getElem_drop]
      have hj : j < 64 := by simpa using h1
      rw [i4 j hj]
      unfold heldP
      rw [← hB, if_pos (by omega), List.getD_eq_getElem?_getD, List.getElem?_eq_getElem (by rw [sS_len]; omega)]
      rfl
  refine ⟨by omega, by omega, ?_, fun j hj => ?_, by rw [hB']; omega⟩
  · rw [e1, hB', hacc, hfull, i3, ← hB, show ln - n + 64 * (B + 1) = q by omega]
  · rw [e2 j hj]
    unfold heldP
    rw [hB']
    by_cases h1 : j < k
    · rw [if_pos (by omega), if_pos (by omega), drop_at, Nat.sub_zero, show 64 * (B + 1) + j = n + (q - ln + j) by omega, sS_high]
    · rw [if_neg (by omega), if_neg (by omega)]
/-- Bytes go behind those that are held. -/
theorem add_more {h d hh g : Nat → Nat} {n ln nn q : Nat} {l : List Nat} (hi : AddInv h d n ln l hh g nn q) (hN : nn < 64) {k : Nat} (hk : k = min (l.drop (q - ln)).length (64 - nn)) (h0 : 0 < (l.drop (q - ln)).length) {g' : Nat → Nat} {nn' q' : Nat} (e2 : ∀ j, j < 64 → g' j = if nn ≤ j ∧ j < nn + k then (l.drop (q - ln)).getD (j - nn) 0 else g j) (e3 : nn' = nn + k) (e4 : q' = q + k) : AddInv h d n ln l hh g' nn' q' := by
  obtain ⟨i1, i2, i3, i4, i5⟩ := hi
  rw [List.length_drop] at hk h0
  obtain ⟨B, hB⟩ : ∃ B, B = nblk (n + (q - ln)) := ⟨_, rfl⟩
  rw [← hB] at i3 i5
  have hpB : 64 * B ≤ n + (q - ln) := by rw [hB]; exact nblk_le _
  have hB' : nblk (n + (q' - ln)) = B := by have := hB; unfold nblk at this ⊢; omega
  refine ⟨by omega, by omega, by rw [hB']; exact i3, fun j hj => ?_, by rw [hB']; omega⟩
  rw [e2 j hj]
  unfold heldP
  rw [hB']
  by_cases h1 : nn ≤ j ∧ j < nn + k
  · rw [if_pos h1, if_pos (by omega), drop_at, show 64 * B + j = n + (q - ln + (j - nn)) by omega, sS_high]
  · rw [if_neg h1, i4 j hj]
    unfold heldP
    rw [← hB]
    by_cases h2 : j < nn
    · rw [if_pos (by omega), if_pos (by omega)]
    · rw [if_neg (by omega), if_neg (by omega)]
theorem add_shows {B : Mem} {bv : Value} {l : List Nat} {q ln k : Nat} (h : Shows B 1 bv (l.drop (q - ln)).length ((l.drop (q - ln)).map by8)) (hk : k ≤ (l.drop (q - ln)).length) (hq : ln ≤ q) : Shows B 1 (slPart 1 bv k (l.drop (q - ln)).length) (l.drop (q + k - ln)).length ((l.drop (q + k - ln)).map by8) :=
  h.cut hk (Nat.le_refl _) (by rw [List.drop_drop, List.take_of_length_le (by simp; omega), show q - ln + k = q + k - ln by omega])
theorem cH_congr {h h' d d' : Nat → Nat} {n n' ln ln' : Nat} (hh : h = h') (hd : ∀ j, j < 64 → d j = d' j) (hn : n = n') (hl : ln = ln') : Value.agg (cells 74 [pI .u32 8 h, pI .u8 64 d, pV (.int .i64 (n : Int)), pV (.int .i64 (ln : Int))]) = Value.agg (cells 74 [pI .u32 8 h', pI .u8 64 d', pV (.int .i64 (n' : Int)), pV (.int .i64 (ln' : Int))]) := by
  subst hh hn hl
  congr 1
  exact cells_congr ⟨rfl, fun _ _ => rfl, rfl, fun i hi => congrArg (fun z : Nat => Value.int .u8 (z : Int)) (hd i hi), rfl, fun _ _ => rfl, rfl, fun _ _ => rfl, trivial⟩
theorem add_last {h d hh g : Nat → Nat} {n ln nn q : Nat} {l : List Nat} (hi : AddInv h d n ln l hh g nn q) (h0 : (l.drop (q - ln)).length = 0) : hh = hacc h (ln - n) (sS d n l) (nblk (sS d n l).length) ∧ (∀ j, j < 64 → g j = ((sS d n l).drop (64 * nblk (sS d n l).length)).getD j 0) ∧ nn = ((sS d n l).drop (64 * nblk (sS d n l).length)).length ∧ q = ln + l.length := by
  obtain ⟨i1, i2, i3, i4, i5⟩ := hi
  rw [List.length_drop] at h0
  have hp : n + (q - ln) = (sS d n l).length := by rw [sS_len]; omega
  rw [hp] at i3 i4 i5
  refine ⟨i3, fun j hj => ?_, by rw [i5, List.length_drop], by omega⟩
  rw [i4 j hj, drop_at]
  unfold heldP
  by_cases h1 : j < (sS d n l).length - 64 * nblk (sS d n l).length
  · rw [if_pos h1]
  · rw [if_neg h1, List.getD_eq_getElem?_getD, List.getElem?_eq_none (by omega)]; rfl
end Go.Proofs.YtpmgjnfllnokjaaDoor

/-
  Walks, written by a program of ours off the loaded functions.
-/
namespace Go.Proofs.YtpmgjnfllnokjaaDoor
open Go Go.RowKit


theorem ent24 : enters Tryd.prog 24 = true := by kernel_rfl

variable {G : Mem}

set_option maxHeartbeats 2000000 in
theorem spread_true (h d : Nat → Nat) (n ln : Nat) (hl : ln < 4294967296) : Fn Tryd.prog G 30 #[.agg (cells 74 [pI .u32 8 h, pI .u8 64 d, pV (.int .i64 (n : Int)), pV (.int .i64 (ln : Int))]), .bool true] (.agg (arr .u32 16 (w0 h ln true))) := by
  refine fn1 (n := 45) Tryd.func30 rfl rfl (by simp) (argE [.agg (cells 74 [pI .u32 8 h, pI .u8 64 d, pV (.int .i64 (n : Int)), pV (.int .i64 (ln : Int))]), .bool true] 0) (argE_ok _) ?_
  refine e_seq ?_
  refine e_plain ?_
  refine e_box 0 rfl rfl fun r1 => ?_
  refine e_alloc 1 zer62 rfl fun r2 => ?_
  refine e_nil ?_
  refine e_seq ?_
  refine e_plain ?_
  refine e_alloc 2 zer62 rfl fun r3 => ?_
  refine e_nil ?_
  refine e_seq ?_
  refine e_seq ?_
  refine e_plain ?_
  refine e_call rfl ent24 div_fn rfl rfl ?_
  refine e_move rfl rfl ?_
  refine e_nil ?_
  refine e_block ?_
  refine e_loopK [(1, _), (2, _), (4, _), (5, _), (8, _)] [(0, _), (1, _)] (fun kk E m => ∃ (i : Nat) (s : Nat → Nat), kk = 8 - i ∧ E = [(9, ii i)] ∧ m = [(2, some ⟨r3, arr .u32 16 s, 62⟩)] ∧ (i ≤ 8) ∧ (∀ t, t < 16 → s t = if t % 8 < i then w00 h t else 0)) [(9, ii 0)] [(2, some ⟨r3, arr .u32 16 (fun _ => 0), 62⟩)] (8 - 0) ⟨rfl, rfl, rfl, rfl, rfl, rfl, trivial⟩ ⟨rfl, rfl, rfl, trivial⟩ ⟨0, fun _ => 0, rfl, rfl, rfl, by omega, fun t _ => by rw [if_neg (by omega)]⟩ ?_
  rintro kk E m ⟨i, s, rfl, rfl, rfl, hf0_0, hf0_1⟩
  simp only [catE, catL]
  refine e_seq ?_
  refine e_plain ?_
  refine e_lt rfl rfl rfl ?_
  refine e_nil ?_
  refine e_seq ?_
  refine e_cond rfl ?_ ?_
  · intro hc0
    have hc0 : i < 8 := by have := of_decide_eq_true hc0; omega
    refine e_skip ?_
    refine e_seq ?_
    refine e_block ?_
    refine e_seq ?_
    refine e_plain ?_
    refine e_move rfl rfl ?_
    refine e_idx und45 und44 siz44 rfl rfl (by omega) rfl ?_
    refine e_assign rfl rfl ?_
    refine e_assign rfl rfl ?_
    refine e_nil ?_
    refine e_plain ?_
    refine e_move rfl rfl ?_
    refine e_move rfl rfl ?_
    refine e_add_i (p := 8) rfl rfl rfl (by omega) ?_
    refine e_move rfl rfl ?_
    refine e_fld (0) und47 rfl siz45 rfl rfl rfl ?_
    refine e_index0 und45 siz44 rfl rfl (by omega) rfl ?_
    refine e_ldI (i := 0) 0 (i) und44 rfl rfl rfl rfl (by first | rfl | omega) (by omega) (by omega) rfl ⟨[], trivial⟩ ?_
    refine e_move rfl rfl ?_
    refine e_index0 und62 siz44 rfl rfl (by omega) rfl ?_
    refine e_storeN (i := 2) siz44 rfl rfl rfl (by omega) (.inl rfl) ?_
    refine e_index0 und62 siz44 rfl rfl (by omega) rfl ?_
    refine e_storeN (i := 2) siz44 rfl rfl rfl (by omega) (.inl rfl) ?_
    refine e_nil ?_
    refine e_plain ?_
    refine e_add_i (q := 1) rfl rfl rfl (by omega) ?_
    refine e_move rfl rfl ?_
    refine e_nil ?_
    refine ⟨_, [(9, ii (i + 1))], [(2, some ⟨r3, arr .u32 16 (upd (upd s i _) (8 + i) _), 62⟩)], ?_, ⟨rfl, rfl, rfl, rfl, rfl, rfl, trivial⟩, ⟨rfl, rfl, rfl, trivial⟩, i + 1, upd (upd s i _) (8 + i) _, rfl, rfl, rfl, by omega, w00_step (by omega) hf0_1⟩
    omega
  · intro hc0
    have hc0 := of_decide_eq_false hc0
    have hz0 : i = 8 := by omega
    subst hz0
    refine e_exit ?_
    refine e_seq ?_
    refine e_plain ?_
    refine e_index0 (j := 12) und62 siz44 rfl rfl (by omega) rfl ?_
    refine e_load1 (i := 2) und44 rfl rfl rfl (arr_get (by omega)) rfl ⟨[], trivial⟩ ?_
    refine e_fld (73) und47 rfl siz3 rfl rfl rfl ?_
    refine e_ldV1 (i := 0) 3 und3 rfl rfl rfl rfl (by decide) rfl ⟨[], trivial⟩ ?_
    refine e_conv_w und3 und44 rfl rfl rfl ?_
    refine e_xor_w rfl rfl rfl  ?_
    refine e_index0 (j := 12) und62 siz44 rfl rfl (by omega) rfl ?_
    refine e_storeN (i := 2) siz44 rfl rfl rfl (by omega) (.inl rfl) ?_
    refine e_nil ?_
    refine e_seq ?_
    refine e_plain ?_
    refine e_index0 (j := 13) und62 siz44 rfl rfl (by omega) rfl ?_
    refine e_load1 (i := 2) und44 rfl rfl rfl (arr_get (by omega)) rfl ⟨[], trivial⟩ ?_
    refine e_fld (73) und47 rfl siz3 rfl rfl rfl ?_
    refine e_ldV1 (i := 0) 3 und3 rfl rfl rfl rfl (by decide) rfl ⟨[], trivial⟩ ?_
    refine e_shr_i (s := 32) rfl rfl rfl (by omega) ?_
    refine e_as (congrArg ii (show ln / 2 ^ 32 = 0 by omega)) ?_
    refine e_conv_w und3 und44 rfl rfl rfl ?_
    refine e_xor_w rfl rfl rfl  ?_
    refine e_index0 (j := 13) und62 siz44 rfl rfl (by omega) rfl ?_
    refine e_storeN (i := 2) siz44 rfl rfl rfl (by omega) (.inl rfl) ?_
    refine e_nil ?_
    refine e_seq ?_
    refine e_seq ?_
    refine e_plain ?_
    refine e_move rfl rfl ?_
    refine e_nil ?_
    refine e_cond rfl ?_ ?_
    · intro hc1
      refine e_plain ?_
      refine e_index0 (j := 14) und62 siz44 rfl rfl (by omega) rfl ?_
      refine e_load1 (i := 2) und44 rfl rfl rfl (arr_get (by omega)) rfl ⟨[], trivial⟩ ?_
      refine e_compl_w rfl rfl ?_
      refine e_index0 (j := 14) und62 siz44 rfl rfl (by omega) rfl ?_
      refine e_storeN (i := 2) siz44 rfl rfl rfl (by omega) (.inl rfl) ?_
      refine e_nil ?_
      refine e_seq ?_
      refine e_plain ?_
      refine e_loadA (i := 2) und62 rfl siz62 rfl rfl (arr_size _ _ _) rfl ⟨[], trivial⟩ ?_
      refine e_storeA (i := 1) siz62 rfl rfl (arr_size _ _ _) arr_one rfl (arr_sz _ _ _ _ _) (.inl rfl) ?_
      refine e_nil ?_
      refine e_ret ?_
      rw [← arr_congr (spr_true hf0_1)]
      exact ⟨_, rfl, .cell (i := 1) rfl rfl und62 rfl siz62 (arr_size _ _ _)⟩
    · intro hc1
      cases hc1

set_option maxHeartbeats 2000000 in
theorem spread_false (h d : Nat → Nat) (n ln : Nat) (hl : ln < 4294967296) : Fn Tryd.prog G 30 #[.agg (cells 74 [pI .u32 8 h, pI .u8 64 d, pV (.int .i64 (n : Int)), pV (.int .i64 (ln : Int))]), .bool false] (.agg (arr .u32 16 (w0 h ln false))) := by
  refine fn1 (n := 45) Tryd.func30 rfl rfl (by simp) (argE [.agg (cells 74 [pI .u32 8 h, pI .u8 64 d, pV (.int .i64 (n : Int)), pV (.int .i64 (ln : Int))]), .bool false] 0) (argE_ok _) ?_
  refine e_seq ?_
  refine e_plain ?_
  refine e_box 0 rfl rfl fun r1 => ?_
  refine e_alloc 1 zer62 rfl fun r2 => ?_
  refine e_nil ?_
  refine e_seq ?_
  refine e_plain ?_
  refine e_alloc 2 zer62 rfl fun r3 => ?_
  refine e_nil ?_
  refine e_seq ?_
  refine e_seq ?_
  refine e_plain ?_
  refine e_call rfl ent24 div_fn rfl rfl ?_
  refine e_move rfl rfl ?_
  refine e_nil ?_
  refine e_block ?_
  refine e_loopK [(1, _), (2, _), (4, _), (5, _), (8, _)] [(0, _), (1, _)] (fun kk E m => ∃ (i : Nat) (s : Nat → Nat), kk = 8 - i ∧ E = [(9, ii i)] ∧ m = [(2, some ⟨r3, arr .u32 16 s, 62⟩)] ∧ (i ≤ 8) ∧ (∀ t, t < 16 → s t = if t % 8 < i then w00 h t else 0)) [(9, ii 0)] [(2, some ⟨r3, arr .u32 16 (fun _ => 0), 62⟩)] (8 - 0) ⟨rfl, rfl, rfl, rfl, rfl, rfl, trivial⟩ ⟨rfl, rfl, rfl, trivial⟩ ⟨0, fun _ => 0, rfl, rfl, rfl, by omega, fun t _ => by rw [if_neg (by omega)]⟩ ?_
  rintro kk E m ⟨i, s, rfl, rfl, rfl, hf0_0, hf0_1⟩
  simp only [catE, catL]
  refine e_seq ?_
  refine e_plain ?_
  refine e_lt rfl rfl rfl ?_
  refine e_nil ?_
  refine e_seq ?_
  refine e_cond rfl ?_ ?_
  · intro hc0
    have hc0 : i < 8 := by have := of_decide_eq_true hc0; omega
    refine e_skip ?_
    refine e_seq ?_
    refine e_block ?_
    refine e_seq ?_
    refine e_plain ?_
    refine e_move rfl rfl ?_
    refine e_idx und45 und44 siz44 rfl rfl (by omega) rfl ?_
    refine e_assign rfl rfl ?_
    refine e_assign rfl rfl ?_
    refine e_nil ?_
    refine e_plain ?_
    refine e_move rfl rfl ?_
    refine e_move rfl rfl ?_
    refine e_add_i (p := 8) rfl rfl rfl (by omega) ?_
    refine e_move rfl rfl ?_
    refine e_fld (0) und47 rfl siz45 rfl rfl rfl ?_
    refine e_index0 und45 siz44 rfl rfl (by omega) rfl ?_
    refine e_ldI (i := 0) 0 (i) und44 rfl rfl rfl rfl (by first | rfl | omega) (by omega) (by omega) rfl ⟨[], trivial⟩ ?_
    refine e_move rfl rfl ?_
    refine e_index0 und62 siz44 rfl rfl (by omega) rfl ?_
    refine e_storeN (i := 2) siz44 rfl rfl rfl (by omega) (.inl rfl) ?_
    refine e_index0 und62 siz44 rfl rfl (by omega) rfl ?_
    refine e_storeN (i := 2) siz44 rfl rfl rfl (by omega) (.inl rfl) ?_
    refine e_nil ?_
    refine e_plain ?_
    refine e_add_i (q := 1) rfl rfl rfl (by omega) ?_
    refine e_move rfl rfl ?_
    refine e_nil ?_
    refine ⟨_, [(9, ii (i + 1))], [(2, some ⟨r3, arr .u32 16 (upd (upd s i _) (8 + i) _), 62⟩)], ?_, ⟨rfl, rfl, rfl, rfl, rfl, rfl, trivial⟩, ⟨rfl, rfl, rfl, trivial⟩, i + 1, upd (upd s i _) (8 + i) _, rfl, rfl, rfl, by omega, w00_step (by omega) hf0_1⟩
    omega
  · intro hc0
    have hc0 := of_decide_eq_false hc0
    have hz0 : i = 8 := by omega
    subst hz0
    refine e_exit ?_
    refine e_seq ?_
    refine e_plain ?_
    refine e_index0 (j := 12) und62 siz44 rfl rfl (by omega) rfl ?_
    refine e_load1 (i := 2) und44 rfl rfl rfl (arr_get (by omega)) rfl ⟨[], trivial⟩ ?_
    refine e_fld (73) und47 rfl siz3 rfl rfl rfl ?_
    refine e_ldV1 (i := 0) 3 und3 rfl rfl rfl rfl (by decide) rfl ⟨[], trivial⟩ ?_
    refine e_conv_w und3 und44 rfl rfl rfl ?_
    refine e_xor_w rfl rfl rfl  ?_
    refine e_index0 (j := 12) und62 siz44 rfl rfl (by omega) rfl ?_
    refine e_storeN (i := 2) siz44 rfl rfl rfl (by omega) (.inl rfl) ?_
    refine e_nil ?_
    refine e_seq ?_
    refine e_plain ?_
    refine e_index0 (j := 13) und62 siz44 rfl rfl (by omega) rfl ?_
    refine e_load1 (i := 2) und44 rfl rfl rfl (arr_get (by omega)) rfl ⟨[], trivial⟩ ?_
    refine e_fld (73) und47 rfl siz3 rfl rfl rfl ?_
    refine e_ldV1 (i := 0) 3 und3 rfl rfl rfl rfl (by decide) rfl ⟨[], trivial⟩ ?_
    refine e_shr_i (s := 32) rfl rfl rfl (by omega) ?_
    refine e_as (congrArg ii (show ln / 2 ^ 32 = 0 by omega)) ?_
    refine e_conv_w und3 und44 rfl rfl rfl ?_
    refine e_xor_w rfl rfl rfl  ?_
    refine e_index0 (j := 13) und62 siz44 rfl rfl (by omega) rfl ?_
    refine e_storeN (i := 2) siz44 rfl rfl rfl (by omega) (.inl rfl) ?_
    refine e_nil ?_
    refine e_seq ?_
    refine e_seq ?_
    refine e_plain ?_
    refine e_move rfl rfl ?_
    refine e_nil ?_
    refine e_cond rfl ?_ ?_
    · intro hc1
      cases hc1
    · intro hc1
      refine e_skip ?_
      refine e_seq ?_
      refine e_plain ?_
      refine e_loadA (i := 2) und62 rfl siz62 rfl rfl (arr_size _ _ _) rfl ⟨[], trivial⟩ ?_
      refine e_storeA (i := 1) siz62 rfl rfl (arr_size _ _ _) arr_one rfl (arr_sz _ _ _ _ _) (.inl rfl) ?_
      refine e_nil ?_
      refine e_ret ?_
      rw [← arr_congr (spr_false hf0_1)]
      exact ⟨_, rfl, .cell (i := 1) rfl rfl und62 rfl siz62 (arr_size _ _ _)⟩

set_option maxHeartbeats 2000000 in
theorem dbegin6_fn : Fn Tryd.prog G 19 #[] (.agg (cells 74 [pI .u32 8 hbeg, pI .u8 64 (fun _ => 0), pV (.int .i64 0), pV (.int .i64 0)])) := by
  refine fn1 (n := 9) Tryd.func19 rfl rfl (by simp) (argE [] 0) (argE_ok _) ?_
  refine e_seq ?_
  refine e_plain ?_
  refine e_alloc 0 zer47 rfl fun r1 => ?_
  refine e_nil ?_
  refine e_seq ?_
  refine e_plain ?_
  refine e_call rfl ent24 div_fn rfl rfl ?_
  refine e_alloc 1 zer45 rfl fun r2 => ?_
  refine e_storeA (i := 1) siz45 rfl rfl (arr_size _ _ _) arr_one rfl (arr_sz _ _ _ _ _) (.inl rfl) ?_
  refine e_nil ?_
  refine e_seq ?_
  refine e_plain ?_
  refine e_index0 (j := 0) und45 siz44 rfl rfl (by omega) rfl ?_
  refine e_load1 (i := 1) und44 rfl rfl rfl (arr_get (by omega)) rfl ⟨[], trivial⟩ ?_
  refine e_xor_w (q := 16842784) rfl rfl rfl  ?_
  refine e_index0 (j := 0) und45 siz44 rfl rfl (by omega) rfl ?_
  refine e_storeN (i := 1) siz44 rfl rfl rfl (by omega) (.inl rfl) ?_
  refine e_nil ?_
  refine e_seq ?_
  refine e_plain ?_
  refine e_loadA (i := 1) und45 rfl siz45 rfl rfl (arr_size _ _ _) rfl ⟨[], trivial⟩ ?_
  refine e_buildS (cells 74 [pI .u32 8 hbeg, pI .u8 64 (fun _ => 0), pV (.int .i64 0), pV (.int .i64 0)]) zer47 und47 pls47 rfl (by kernel_rfl) rfl ?_
  refine e_storeA (i := 0) siz47 rfl rfl (arrv_size _ _) (cells_one ⟨fun _ => rfl, fun _ => rfl, fun _ => rfl, fun _ => rfl, trivial⟩) rfl cells_sz (.inl rfl) ?_
  refine e_nil ?_
  refine e_ret ?_
  exact ⟨_, rfl, .cell (i := 0) rfl rfl und47 rfl siz47 (arrv_size _ _)⟩

end Go.Proofs.YtpmgjnfllnokjaaDoor

/-
  Walks, written by a program of ours off the loaded functions.
-/
namespace Go.Proofs.YtpmgjnfllnokjaaDoor
open Go Go.RowKit


theorem ent29 : enters Tryd.prog 29 = true := by kernel_rfl
theorem ent30 : enters Tryd.prog 30 = true := by kernel_rfl
theorem ent31 : enters Tryd.prog 31 = true := by kernel_rfl

variable {G : Mem}

set_option maxHeartbeats 2000000 in
theorem dsqz_true (h d : Nat → Nat) (n ln : Nat) (hd : ∀ j, j < 64 → d j < 256) (hl : ln < 4294967296) : Fn Tryd.prog (DOR :: G) 23 #[.agg (cells 74 [pI .u32 8 h, pI .u8 64 d, pV (.int .i64 (n : Int)), pV (.int .i64 (ln : Int))]), .bool true] (.agg (arr .u32 8 (sqz h ((List.range 64).map d) ln true))) := by
  obtain ⟨v, hv⟩ : ∃ v, v = rndM (wrd ((List.range 64).map d)) (w0 h ln true) 10 := ⟨_, rfl⟩
  have hvb : ∀ t, t < 16 → v t = brs ((List.range 64).map d) (w0 h ln true) 10 t := fun t ht => by rw [hv]; exact rnd_brs (fun _ _ => rfl) 10 t ht
  obtain ⟨z, hz⟩ : ∃ z, z = sqz h ((List.range 64).map d) ln true := ⟨_, rfl⟩
  rw [← hz]
  refine fn1 (n := 35) Tryd.func23 rfl rfl (by simp) (argE [.agg (cells 74 [pI .u32 8 h, pI .u8 64 d, pV (.int .i64 (n : Int)), pV (.int .i64 (ln : Int))]), .bool true] 0) (argE_ok _) ?_
  refine e_seq ?_
  refine e_plain ?_
  refine e_box 0 rfl rfl fun r1 => ?_
  refine e_alloc 1 zer45 rfl fun r2 => ?_
  refine e_nil ?_
  refine e_seq ?_
  refine e_draw mixed (by kernel_rfl) ?_
  refine e_loadA (i := 0) und47 rfl siz47 rfl rfl (arrv_size _ _) rfl ⟨[], trivial⟩ ?_
  refine e_move rfl rfl ?_
  refine e_call rfl ent30 (spread_true h d n ln hl) rfl rfl ?_
  refine e_fld (8) und47 rfl siz34 rfl rfl rfl ?_
  refine e_ldC (i := 0) 1 und34 rfl siz34 rfl rfl rfl (by decide) rfl ⟨[], trivial⟩ ?_
  refine e_call rfl ent31 (words_fn d hd) rfl rfl ?_
  refine e_call rfl ent29 (rounds6_fn (w0 h ln true) (wrd ((List.range 64).map d))) rfl rfl ?_
  refine e_as (congrArg (fun f => Value.agg (arr .u32 16 f)) hv.symm) ?_
  refine e_alloc 2 zer62 rfl fun r3 => ?_
  refine e_storeA (i := 2) siz62 rfl rfl (arr_size _ _ _) arr_one rfl (arr_sz _ _ _ _ _) (.inl rfl) ?_
  refine e_nil ?_
  refine e_seq ?_
  refine e_seq ?_
  refine e_plain ?_
  refine e_move rfl rfl ?_
  refine e_nil ?_
  refine e_block ?_
  refine e_loopK [(2, _), (4, _), (5, _)] [(1, _), (2, _)] (fun kk E m => ∃ (q : Nat) (s : Nat → Nat), kk = 8 - q ∧ E = [(14, ii q)] ∧ m = [(0, some ⟨r1, cells 74 [pI .u32 8 s, pI .u8 64 d, pV (.int .i64 (n : Int)), pV (.int .i64 (ln : Int))], 47⟩)] ∧ (q ≤ 8) ∧ (∀ t, t < 8 → s t = if t < q then z t else h t)) [(14, ii 0)] [(0, some ⟨r1, cells 74 [pI .u32 8 h, pI .u8 64 d, pV (.int .i64 (n : Int)), pV (.int .i64 (ln : Int))], 47⟩)] (8 - 0) ⟨rfl, rfl, rfl, rfl, trivial⟩ ⟨rfl, rfl, rfl, trivial⟩ ⟨0, h, rfl, rfl, rfl, by omega, fun t _ => by rw [if_neg (by omega)]⟩ ?_
  rintro kk E m ⟨q, s, rfl, rfl, rfl, hf0_0, hf0_1⟩
  simp only [catE, catL]
  refine e_seq ?_
  refine e_plain ?_
  refine e_lt rfl rfl rfl ?_
  refine e_nil ?_
  refine e_seq ?_
  refine e_cond rfl ?_ ?_
  · intro hc0
    have hc0 : q < 8 := by have := of_decide_eq_true hc0; omega
    refine e_skip ?_
    refine e_seq ?_
    refine e_block ?_
    refine e_seq ?_
    refine e_plain ?_
    refine e_move rfl rfl ?_
    refine e_assign rfl rfl ?_
    refine e_nil ?_
    refine e_draw mixed (by kernel_rfl) ?_
    refine e_move rfl rfl ?_
    refine e_fld (0) und47 rfl siz45 rfl rfl rfl ?_
    refine e_index0 und45 siz44 rfl rfl (by omega) rfl ?_
    refine e_ldI (i := 0) 0 (q) und44 rfl rfl rfl rfl (by first | rfl | omega) (by omega) (by omega) rfl ⟨[], trivial⟩ ?_
    refine e_move rfl rfl ?_
    refine e_index0 und62 siz44 rfl rfl (by omega) rfl ?_
    refine e_load1 (i := 2) und44 rfl rfl rfl (arr_get (by omega)) rfl ⟨[], trivial⟩ ?_
    refine e_move rfl rfl ?_
    refine e_add_i (p := 8) rfl rfl rfl (by omega) ?_
    refine e_index0 und62 siz44 rfl rfl (by omega) rfl ?_
    refine e_load1 (i := 2) und44 rfl rfl rfl (arr_get (by omega)) rfl ⟨[], trivial⟩ ?_
    refine e_xor_w rfl rfl rfl  ?_
    refine e_xor_w rfl rfl rfl  ?_
    refine e_fld (0) und47 rfl siz45 rfl rfl rfl ?_
    refine e_index0 und45 siz44 rfl rfl (by omega) rfl ?_
    refine e_stI (i := 0) 0 (q) siz44 rfl rfl rfl rfl (by first | rfl | omega) (by omega) (by omega) (.inl rfl) ?_
    refine e_nil ?_
    refine e_plain ?_
    refine e_add_i (q := 1) rfl rfl rfl (by omega) ?_
    refine e_move rfl rfl ?_
    refine e_nil ?_
    refine ⟨_, [(14, ii (q + 1))], [(0, some ⟨r1, cells 74 [pI .u32 8 (upd s q _), pI .u8 64 d, pV (.int .i64 (n : Int)), pV (.int .i64 (ln : Int))], 47⟩)], ?_, ⟨rfl, rfl, rfl, rfl, trivial⟩, ⟨rfl, rfl, rfl, trivial⟩, q + 1, upd s q _, rfl, rfl, rfl, by omega, sqd_step (by omega) hvb hz hf0_1⟩
    omega
  · intro hc0
    have hc0 := of_decide_eq_false hc0
    have hz0 : q = 8 := by omega
    subst hz0
    refine e_exit ?_
    refine e_seq ?_
    refine e_plain ?_
    refine e_fld (0) und47 rfl siz45 rfl rfl rfl ?_
    refine e_ldC (i := 0) 0 und45 rfl siz45 rfl rfl rfl (by decide) rfl ⟨[], trivial⟩ ?_
    refine e_storeA (i := 1) siz45 rfl rfl (arr_size _ _ _) arr_one rfl (arr_sz _ _ _ _ _) (.inl rfl) ?_
    refine e_nil ?_
    refine e_ret ?_
    rw [← arr_congr (k := .u32) (n := 8) (fun t ht => (hf0_1 t ht).trans (if_pos (by omega)))]
    exact ⟨_, rfl, .cell (i := 1) rfl rfl und45 rfl siz45 (arr_size _ _ _)⟩

set_option maxHeartbeats 2000000 in
theorem dsqz_false (h d : Nat → Nat) (n ln : Nat) (hd : ∀ j, j < 64 → d j < 256) (hl : ln < 4294967296) : Fn Tryd.prog (DOR :: G) 23 #[.agg (cells 74 [pI .u32 8 h, pI .u8 64 d, pV (.int .i64 (n : Int)), pV (.int .i64 (ln : Int))]), .bool false] (.agg (arr .u32 8 (sqz h ((List.range 64).map d) ln false))) := by
  obtain ⟨v, hv⟩ : ∃ v, v = rndM (wrd ((List.range 64).map d)) (w0 h ln false) 10 := ⟨_, rfl⟩
  have hvb : ∀ t, t < 16 → v t = brs ((List.range 64).map d) (w0 h ln false) 10 t := fun t ht => by rw [hv]; exact rnd_brs (fun _ _ => rfl) 10 t ht
  obtain ⟨z, hz⟩ : ∃ z, z = sqz h ((List.range 64).map d) ln false := ⟨_, rfl⟩
  rw [← hz]
  refine fn1 (n := 35) Tryd.func23 rfl rfl (by simp) (argE [.agg (cells 74 [pI .u32 8 h, pI .u8 64 d, pV (.int .i64 (n : Int)), pV (.int .i64 (ln : Int))]), .bool false] 0) (argE_ok _) ?_
  refine e_seq ?_
  refine e_plain ?_
  refine e_box 0 rfl rfl fun r1 => ?_
  refine e_alloc 1 zer45 rfl fun r2 => ?_
  refine e_nil ?_
  refine e_seq ?_
  refine e_draw mixed (by kernel_rfl) ?_
  refine e_loadA (i := 0) und47 rfl siz47 rfl rfl (arrv_size _ _) rfl ⟨[], trivial⟩ ?_
  refine e_move rfl rfl ?_
  refine e_call rfl ent30 (spread_false h d n ln hl) rfl rfl ?_
  refine e_fld (8) und47 rfl siz34 rfl rfl rfl ?_
  refine e_ldC (i := 0) 1 und34 rfl siz34 rfl rfl rfl (by decide) rfl ⟨[], trivial⟩ ?_
  refine e_call rfl ent31 (words_fn d hd) rfl rfl ?_
  refine e_call rfl ent29 (rounds6_fn (w0 h ln false) (wrd ((List.range 64).map d))) rfl rfl ?_
  refine e_as (congrArg (fun f => Value.agg (arr .u32 16 f)) hv.symm) ?_
  refine e_alloc 2 zer62 rfl fun r3 => ?_
  refine e_storeA (i := 2) siz62 rfl rfl (arr_size _ _ _) arr_one rfl (arr_sz _ _ _ _ _) (.inl rfl) ?_
  refine e_nil ?_
  refine e_seq ?_
  refine e_seq ?_
  refine e_plain ?_
  refine e_move rfl rfl ?_
  refine e_nil ?_
  refine e_block ?_
  refine e_loopK [(2, _), (4, _), (5, _)] [(1, _), (2, _)] (fun kk E m => ∃ (q : Nat) (s : Nat → Nat), kk = 8 - q ∧ E = [(14, ii q)] ∧ m = [(0, some ⟨r1, cells 74 [pI .u32 8 s, pI .u8 64 d, pV (.int .i64 (n : Int)), pV (.int .i64 (ln : Int))], 47⟩)] ∧ (q ≤ 8) ∧ (∀ t, t < 8 → s t = if t < q then z t else h t)) [(14, ii 0)] [(0, some ⟨r1, cells 74 [pI .u32 8 h, pI .u8 64 d, pV (.int .i64 (n : Int)), pV (.int .i64 (ln : Int))], 47⟩)] (8 - 0) ⟨rfl, rfl, rfl, rfl, trivial⟩ ⟨rfl, rfl, rfl, trivial⟩ ⟨0, h, rfl, rfl, rfl, by omega, fun t _ => by rw [if_neg (by omega)]⟩ ?_
  rintro kk E m ⟨q, s, rfl, rfl, rfl, hf0_0, hf0_1⟩
  simp only [catE, catL]
  refine e_seq ?_
  refine e_plain ?_
  refine e_lt rfl rfl rfl ?_
  refine e_nil ?_
  refine e_seq ?_
  refine e_cond rfl ?_ ?_
  · intro hc0
    have hc0 : q < 8 := by have := of_decide_eq_true hc0; omega
    refine e_skip ?_
    refine e_seq ?_
    refine e_block ?_
    refine e_seq ?_
    refine e_plain ?_
    refine e_move rfl rfl ?_
    refine e_assign rfl rfl ?_
    refine e_nil ?_
    refine e_draw mixed (by kernel_rfl) ?_
    refine e_move rfl rfl ?_
    refine e_fld (0) und47 rfl siz45 rfl rfl rfl ?_
    refine e_index0 und45 siz44 rfl rfl (by omega) rfl ?_
    refine e_ldI (i := 0) 0 (q) und44 rfl rfl rfl rfl (by first | rfl | omega) (by omega) (by omega) rfl ⟨[], trivial⟩ ?_
    refine e_move rfl rfl ?_
    refine e_index0 und62 siz44 rfl rfl (by omega) rfl ?_
    refine e_load1 (i := 2) und44 rfl rfl rfl (arr_get (by omega)) rfl ⟨[], trivial⟩ ?_
    refine e_move rfl rfl ?_
    refine e_add_i (p := 8) rfl rfl rfl (by omega) ?_
    refine e_index0 und62 siz44 rfl rfl (by omega) rfl ?_
    refine e_load1 (i := 2) und44 rfl rfl rfl (arr_get (by omega)) rfl ⟨[], trivial⟩ ?_
    refine e_xor_w rfl rfl rfl  ?_
    refine e_xor_w rfl rfl rfl  ?_
    refine e_fld (0) und47 rfl siz45 rfl rfl rfl ?_
    refine e_index0 und45 siz44 rfl rfl (by omega) rfl ?_
    refine e_stI (i := 0) 0 (q) siz44 rfl rfl rfl rfl (by first | rfl | omega) (by omega) (by omega) (.inl rfl) ?_
    refine e_nil ?_
    refine e_plain ?_
    refine e_add_i (q := 1) rfl rfl rfl (by omega) ?_
    refine e_move rfl rfl ?_
    refine e_nil ?_
    refine ⟨_, [(14, ii (q + 1))], [(0, some ⟨r1, cells 74 [pI .u32 8 (upd s q _), pI .u8 64 d, pV (.int .i64 (n : Int)), pV (.int .i64 (ln : Int))], 47⟩)], ?_, ⟨rfl, rfl, rfl, rfl, trivial⟩, ⟨rfl, rfl, rfl, trivial⟩, q + 1, upd s q _, rfl, rfl, rfl, by omega, sqd_step (by omega) hvb hz hf0_1⟩
    omega
  · intro hc0
    have hc0 := of_decide_eq_false hc0
    have hz0 : q = 8 := by omega
    subst hz0
    refine e_exit ?_
    refine e_seq ?_
    refine e_plain ?_
    refine e_fld (0) und47 rfl siz45 rfl rfl rfl ?_
    refine e_ldC (i := 0) 0 und45 rfl siz45 rfl rfl rfl (by decide) rfl ⟨[], trivial⟩ ?_
    refine e_storeA (i := 1) siz45 rfl rfl (arr_size _ _ _) arr_one rfl (arr_sz _ _ _ _ _) (.inl rfl) ?_
    refine e_nil ?_
    refine e_ret ?_
    rw [← arr_congr (k := .u32) (n := 8) (fun t ht => (hf0_1 t ht).trans (if_pos (by omega)))]
    exact ⟨_, rfl, .cell (i := 1) rfl rfl und45 rfl siz45 (arr_size _ _ _)⟩

end Go.Proofs.YtpmgjnfllnokjaaDoor

/-
  Data in many blocks: calls that make it, a bag of blocks that are only read from then on.
-/
namespace Go.Proofs.YtpmgjnfllnokjaaDoor
open Go Go.RowKit

/-- A list of blocks, by labels. -/
def lab : Nat → Mem → Mm
  | _, [] => []
  | k, x :: l => (k, some x) :: lab (k + 1) l
theorem lab_lk : ∀ (nw : Mem) (k i : Nat), lkM (lab k nw) i = if k ≤ i then nw[i - k]? else none
  | [], k, i => by simp [lab, lkM]
  | x :: l, k, i => by
    rw [lab, lkM_cons]
    by_cases h : k = i
    · subst h; simp
    · rw [if_neg h, lab_lk l (k + 1) i]
      by_cases h2 : k ≤ i
      · rw [if_pos (by omega), if_pos h2, show i - k = (i - (k + 1)) + 1 by omega, List.getElem?_cons_succ]
      · rw [if_neg (by omega), if_neg h2]
/-- The labels from 1000 on are those of fz. -/
def Bag (fz : Mem) (M : Mm) : Prop := ∀ i, 1000 ≤ i → lkM M i = fz[i - 1000]?
theorem bag_lab (fz : Mem) : Bag fz (lab 1000 fz) := fun i hi => by rw [lab_lk, if_pos hi]
theorem bag_nil : Bag [] [] := fun i _ => by simp [lkM]
theorem bag_skip {fz : Mem} {M : Mm} {i : Nat} {x : Option Blk} (hi : Nat.blt i 1000 = true) (h : Bag fz M) : Bag fz ((i, x) :: M) := fun j hj => by
  have : i < 1000 := by simpa using hi
  rw [lkM_cons, if_neg (by omega)]; exact h j hj
theorem bag_sub {fz : Mem} {M : Mm} (h : Bag fz M) : subL (lab 1000 fz) M := by
  have key : ∀ (l : Mem) (k : Nat), 1000 ≤ k → (∀ j x, l[j]? = some x → lkM M (k + j) = some x) → subL (lab k l) M := by
    intro l
    induction l with
    | nil => intro k _ _; exact trivial
    | cons x l ih =>
      intro k hk hl
      refine ⟨by simpa using hl 0 x rfl, ih (k + 1) (by omega) fun j y hy => ?_⟩
      have := hl (j + 1) y (by simpa using hy)
      rw [show k + 1 + j = k + (j + 1) by omega]; exact this
  exact key fz 1000 (Nat.le_refl _) fun j x hx => by rw [h (1000 + j) (by omega), show 1000 + j - 1000 = j by omega]; exact hx
theorem subL_cat {A B M : Mm} (h1 : subL A M) (h2 : subL B M) : subL (catL A B) M := by
  induction A with
  | nil => exact h2
  | cons x A ih => exact ⟨h1.1, ih h1.2⟩
theorem cat_lk {T : Mm} : ∀ {L : Mm} {i : Nat} {x : Blk}, lkM (catL L T) i = some x → lkM L i = some x ∨ lkM T i = some x
  | [], _, _, h => .inr h
  | (s, v) :: L, i, x, h => by
    rw [catL, lkM_cons] at h
    rw [lkM_cons]
    by_cases e : s = i
    · rw [if_pos e] at h ⊢; exact .inl h
    · rw [if_neg e] at h ⊢; exact cat_lk h
/-- All labels are below 1000. -/
def small : Mm → Bool
  | [] => true
  | (i, _) :: L => Nat.blt i 1000 && small L
theorem small_lk : ∀ {L : Mm} {i : Nat} {x : Blk}, small L = true → lkM L i = some x → i < 1000
  | [], _, _, _, h => by simp [lkM] at h
  | (s, v) :: L, i, x, hs, h => by
    rw [small, Bool.and_eq_true] at hs
    have : s < 1000 := by simpa using hs.1
    rw [lkM_cons] at h
    by_cases e : s = i
    · omega
    · rw [if_neg e] at h; exact small_lk hs.2 h
theorem bag_cat {fz : Mem} : ∀ {L : Mm}, small L = true → Bag fz (catL L (lab 1000 fz))
  | [], _ => bag_lab fz
  | (i, x) :: L, hs => by
    rw [small, Bool.and_eq_true] at hs
    exact bag_skip hs.1 (bag_cat hs.2)
/-- More blocks come into the bag. -/
theorem FitsM.bag {M L : Mm} {m m' fz nw : Mem} (hM : FitsM M m) (hb : Bag fz M) (hL : subL L M) (hs : small L = true) (hm : ∀ x ∈ m, x ∈ m') (hn : ∀ x ∈ nw, x ∈ m') (hnd : (nw.map (·.b)).Nodup) (hap : ∀ x ∈ nw, ∀ i y, (1000 ≤ i ∨ ∃ z, lkM L i = some z) → lkM M i = some y → y.b ≠ x.b) : FitsM (catL L (lab 1000 (fz ++ nw))) m' := by
  have look : ∀ i x, lkM (catL L (lab 1000 (fz ++ nw))) i = some x → (lkM M i = some x ∧ (1000 ≤ i ∨ ∃ z, lkM L i = some z) ∧ (1000 ≤ i → i < 1000 + fz.length)) ∨ (1000 + fz.length ≤ i ∧ nw[i - 1000 - fz.length]? = some x) := fun i x h => by
    rcases cat_lk h with h | h
    · have h1 := small_lk hs h
      exact .inl ⟨subL_lk hL i x h, .inr ⟨x, h⟩, fun h2 => by omega⟩
    · rw [lab_lk] at h
      by_cases hi : 1000 ≤ i
      · rw [if_pos hi] at h
        by_cases hl : i - 1000 < fz.length
        · rw [List.getElem?_append_left hl] at h
          exact .inl ⟨by rw [hb i hi]; exact h, .inl hi, fun _ => by omega⟩
        · rw [List.getElem?_append_right (by omega)] at h
          exact .inr ⟨by omega, h⟩
      · rw [if_neg hi] at h; cases h
  refine ⟨fun i x h => ?_, fun i j x y hx hy hne => ?_⟩
  · rcases look i x h with ⟨h1, _⟩ | ⟨_, h1⟩
    · exact hm x (hM.has i x h1)
    · exact hn x (List.mem_of_getElem? h1)
  · rcases look i x hx with ⟨h1, g1, _⟩ | ⟨h0, h1⟩
    · rcases look j y hy with ⟨h2, _, _⟩ | ⟨_, h2⟩
      · exact hM.apart i j x y h1 h2 hne
      · exact hap y (List.mem_of_getElem? h2) i x g1 h1
    · rcases look j y hy with ⟨h2, g2, _⟩ | ⟨h3, h2⟩
      · exact fun e => hap x (List.mem_of_getElem? h1) j y g2 h2 e.symm
      · intro e
        have l1 := (List.getElem?_eq_some_iff.1 h1).1
        have l2 := (List.getElem?_eq_some_iff.1 h2).1
        have q1 : (nw.map (·.b))[i - 1000 - fz.length]? = some x.b := by rw [List.getElem?_map, h1]; rfl
        have q2 : (nw.map (·.b))[j - 1000 - fz.length]? = some x.b := by rw [List.getElem?_map, h2, e]; rfl
        have := (List.getElem?_inj (by simpa using l1) hnd).1 (q1.trans q2.symm)
        omega
section
variable {P : Program} {G : Mem} {R : Reg} {ops : Array Oper} {n : Nat} {K : Env → Mm → Prop} {Q : Exit → Env → Mm → Prop} {rest : List Oper} {E : Env} {M : Mm} {d : Nat} {ty : TypeId} {pos : String} {aft : Array Edge}
variable {T T' : TypeId} {x y : Operand}
theorem seen_bag {fz : Mem} (hb : Bag fz M) (hX : R.X = []) : SeenE G R M fz := fun z hz => by
  obtain ⟨j, hj⟩ := List.getElem?_of_mem hz
  exact .inr ⟨1000 + j, by rw [hb _ (by omega), show 1000 + j - 1000 = j by omega]; exact hj, [], by rw [hX]; exact trivial⟩
theorem seen_cons {z : Blk} (i : Nat) (hi : lkM M i = some z) (hX : R.X = [] := by rfl) : SeenE G R M (z :: G) := fun q hq => by
  rcases List.mem_cons.1 hq with rfl | h
  · exact .inr ⟨i, hi, [], by rw [hX]; exact trivial⟩
  · exact .inl h
/-- A call that makes data. -/
theorem e_callD (L : Mm) {fz : Mem} {fo : Operand} {f : FuncId} {args : Array Operand} {tys : Array TypeId} {vs cap : List Value} {g' : Mem} {S : Value → Mem → Prop} (hb : Bag fz M) (hL : subL L M) (hs : small L = true) (hf : rd E fo = some (.func (.func f) #[] cap.toArray)) (hargs : rdl E args.toList = some vs) (he : enters P f = true) (hg : SeenE G R M g')
    (hF : Fx P g' [] f (vs ++ cap).toArray (fun v l1 nw => l1 = [] ∧ S v nw)) (hS : ∀ m' : Mem, ∃ v nw, S v nw ∧ FreshM m' nw) (hd : Nat.blt d n = true) (hR : callMk R = true)
    (h : ∀ v nw, S v nw → OpsE P G R ops n K rest ((d, v) :: E) (catL L (lab 1000 (fz ++ nw)))) : OpsE P G R ops n K (⟨some d, .call ⟨.value fo, args, tys⟩, ty, pos, aft, none⟩ :: rest) E M :=
  fun _ m ha hM => by
    refine st_callN hR (S := S) (ha.rd hf) (ha.args hargs) he (by simpa using hF) hS (fun w hG hv q hq => (hg.seen hM).rin hG hv hq) ?_
    intro v nw hSv hfr
    exact h v nw hSv _ _ (ha.put hd _) (hM.bag hb hL hs (fun x hx => List.mem_append_left _ hx) (fun x hx => List.mem_append_right _ hx) hfr.1 fun x hx i y _ hy => hfr.2 x hx y (hM.has i y hy))
/-- A block of one's own comes into the bag. -/
theorem FitsM.freeze {L : Mm} {m fz : Mem} (hM : FitsM M m) (i : Nat) {oz : Option Blk} (hi : lkM M i = oz) (h1 : Nat.blt i 1000 = true) (hb : Bag fz M) (hL : subL L M) (hs : small L = true) (hn : lkM L i = none) : FitsM (catL L (lab 1000 (fz ++ oz.toList))) m := by
  have h1' : i < 1000 := by simpa using h1
  cases oz with
  | none => exact hM.bag hb hL hs (fun _ h => h) (fun x hx => by simp at hx) (by simp) (fun x hx => by simp at hx)
  | some z =>
    refine hM.bag hb hL hs (fun _ h => h) (fun x hx => ?_) (by simp) fun x hx j y hj hy => ?_
    · simp at hx; subst hx; exact hM.has i x hi
    · simp at hx; subst hx
      refine hM.apart j i y x hy hi fun e => ?_
      subst e
      rcases hj with hj | ⟨q, hq⟩
      · omega
      · rw [hn] at hq; cases hq
theorem e_freeze (i : Nat) (L : Mm) {l : List Oper} {fz : Mem} {oz : Option Blk} (hi : lkM M i = oz) (h1 : Nat.blt i 1000 = true) (hb : Bag fz M) (hL : subL L M) (hs : small L = true) (hn : lkM L i = none) (h : OpsE P G R ops n K l E (catL L (lab 1000 (fz ++ oz.toList)))) : OpsE P G R ops n K l E M :=
  fun _ _ ha hM => h _ _ ha (hM.freeze i hi h1 hb hL hs hn)
theorem s_freeze (i : Nat) (L : Mm) {c : Code} {fz : Mem} {oz : Option Blk} (hi : lkM M i = oz) (h1 : Nat.blt i 1000 = true) (hb : Bag fz M) (hL : subL L M) (hs : small L = true) (hn : lkM L i = none) (h : SatE P G c n Q E (catL L (lab 1000 (fz ++ oz.toList)))) : SatE P G c n Q E M :=
  fun _ _ ha hM => h _ _ ha (hM.freeze i hi h1 hb hL hs hn)
/-- A loop with a bag: Ek and Mk stay as they are, the bag may grow. -/
theorem e_loopB {c : Code} (Ek : Env) (Mk : Mm) (I : Nat → Env → Mm → Mem → Prop) {E0 : Env} {M0 : Mm} {fz : Mem} {k : Nat} (h0 : I k E0 M0 fz) (hs : sub (catE E0 Ek) E) (hl : subL (catL M0 Mk) M) (hb : Bag fz M)
    (round : ∀ k E M fz, I k E M fz → SatE P G c n (thenE (fun E' M' => ∃ k' E'' M'' fz', k' < k ∧ sub (catE E'' Ek) E' ∧ subL (catL M'' Mk) M' ∧ Bag fz' M' ∧ I k' E'' M'' fz') Q) (catE E Ek) (catL (catL M Mk) (lab 1000 fz))) : SatE P G (.loop c) n Q E M :=
  e_loop (fun k E M => ∃ E1 M1 fz, E = catE E1 Ek ∧ M = catL (catL M1 Mk) (lab 1000 fz) ∧ I k E1 M1 fz) (catE E0 Ek) (catL (catL M0 Mk) (lab 1000 fz)) k hs (subL_cat hl (bag_sub hb)) ⟨_, _, _, rfl, rfl, h0⟩ fun k E M ⟨E1, M1, fz, e1, e2, hI⟩ => by
    subst e1 e2
    intro a m ha hM
    refine sat_mono (round k E1 M1 fz hI a m ha hM) fun e a' m' ⟨E', M', h1, h2, h3⟩ => ⟨E', M', h1, h2, ?_⟩
    cases e with
    | normal =>
      obtain ⟨k', E'', M'', fz', q1, q2, q3, q5, q4⟩ := h3
      exact ⟨k', _, _, q1, q2, subL_cat q3 (bag_sub q5), _, _, _, rfl, rfl, q4⟩
    | _ => exact h3
theorem e_round {Ek : Env} {Mk : Mm} {I : Nat → Env → Mm → Mem → Prop} {k k' : Nat} {E' E'' : Env} {M' M'' : Mm} {fz' : Mem} (h : I k' E'' M'' fz') (hs : sub (catE E'' Ek) E') (hl : subL (catL M'' Mk) M') (hb : Bag fz' M') (hk : k' < k) : ∃ k' E'' M'' fz', k' < k ∧ sub (catE E'' Ek) E' ∧ subL (catL M'' Mk) M' ∧ Bag fz' M' ∧ I k' E'' M'' fz' := ⟨_, _, _, _, hk, hs, hl, hb, h⟩
end
/-! ### Ways that come together again -/
section
variable {P : Program} {G : Mem} {R : Reg} {ops : Array Oper} {n : Nat} {K : Env → Mm → Prop} {Q : Exit → Env → Mm → Prop} {E : Env} {M : Mm}
theorem sub_cat {A B F : Env} (h1 : sub A F) (h2 : sub B F) : sub (catE A B) F := by
  induction A with
  | nil => exact h2
  | cons x A ih => exact ⟨h1.1, ih h1.2⟩
/-- Whatever way a region takes: behind it the slots Fn hold, and Fk and Nk are as they were. -/
theorem e_join (Fk Fn : Env) (Nk : Mm) {l : List Oper} (_hk : sub Fk E) (_hn : subL Nk M) (h : OpsE P G R ops n (fun E' M' => sub Fk E' ∧ sub Fn E' ∧ subL Nk M') l E M) (hK : K (catE Fn Fk) Nk) : OpsE P G R ops n K l E M :=
  fun a m ha hM => opsM_mono (fun _ _ ⟨_, _, h1, h2, h3, h4, h5⟩ => ⟨_, _, h1.sub (sub_cat h4 h3), h2.sub h5, hK⟩) l (h a m ha hM)
def joinQ (Fk Fn : Env) (Nk : Mm) (Q : Exit → Env → Mm → Prop) : Exit → Env → Mm → Prop
  | .normal, E', M' => sub Fk E' ∧ sub Fn E' ∧ subL Nk M'
  | e, E', M' => Q e E' M'
theorem s_join (Fk Fn : Env) (Nk : Mm) {c : Code} (_hk : sub Fk E) (_hn : subL Nk M) (h : SatE P G c n (joinQ Fk Fn Nk Q) E M) (hK : Q .normal (catE Fn Fk) Nk) : SatE P G c n Q E M :=
  fun a m ha hM => sat_mono (h a m ha hM) fun e _ _ ⟨E', M', h1, h2, h3⟩ => by
    cases e with
    | normal => exact ⟨_, _, h1.sub (sub_cat h3.2.1 h3.1), h2.sub h3.2.2, hK⟩
    | _ => exact ⟨E', M', h1, h2, h3⟩
theorem e_case {l : List Oper} {s : Nat} {b : Bool} (ht : b = true → OpsE P G R ops n K l ((s, .bool true) :: E) M) (hf : b = false → OpsE P G R ops n K l ((s, .bool false) :: E) M) : OpsE P G R ops n K l ((s, .bool b) :: E) M := by
  cases b with
  | true => exact ht rfl
  | false => exact hf rfl
theorem cell_one {v : Value} (h : v.cells = #[v]) : v.cells[0]? = some v := by rw [h]; rfl
theorem bool_fin {b b' : Bool} (h : b = b') : some (Value.bool b) = some (Value.bool b') := by rw [h]
end
/-! ### Small slices of one's own -/
theorem own_two {e : TypeId} {r : Nat} {v w : Value} : OwnS e 1 (.slice (some ⟨r, 0, none⟩) 2 2) 2 [v, w] [⟨r, #[v, w], e⟩] := .inr ⟨r, 2, #[v, w], rfl, rfl, Nat.le_refl _, by decide, rfl, rfl, rfl⟩
theorem own_none {e : TypeId} {z r : Nat} : OwnS e z (.slice (some ⟨r, 0, none⟩) 0 0) 0 [] [⟨r, #[], e⟩] := .inr ⟨r, 0, #[], rfl, rfl, Nat.le_refl _, by decide, by simp, by simp, by simp⟩
theorem st_buildSl0 {P : Program} {G : Mem} {R : Reg} {ops : Array Oper} {K : Act → Mem → Prop} {rest : List Oper} {a : Act} {m : Mem} {d : Option Tmp} {ty T : TypeId} {pos : String} {aft : Array Edge} {z : Nat} {e : TypeId} (hT : P.underlying T = some (.slice e)) (hs : (P.info? e).map (·.size) = some z)
    (h : ∀ r, (∀ x ∈ m, x.b ≠ r) → opsM P G R ops K rest (a.put d (.slice (some ⟨r, 0, none⟩) 0 0)) (m ++ [⟨r, #[], e⟩])) : opsM P G R ops K (⟨d, .buildSlice T 0 #[], ty, pos, aft, none⟩ :: rest) a m :=
  .inr ⟨rfl, #[], e, fun r => .slice (some ⟨r, 0, none⟩) 0 0, fun w => by
    cases hi : P.info? e with
    | none => simp [hi] at hs
    | some j =>
      simp only [execOp, Instr.buildSlice, zeroValue, typeInfo, underlying, program, sizeOf, newRow, newObj]
      simp [Sem.run, hT, hi, Instr.fill]
      congr 2
      apply Array.ext
      · simp
      · intro i h1 h2
        simp at h2, h⟩
theorem e_buildSl0 {P : Program} {G : Mem} {R : Reg} {ops : Array Oper} {n : Nat} {K : Env → Mm → Prop} {rest : List Oper} {E : Env} {M : Mm} {d : Nat} {ty T : TypeId} {pos : String} {aft : Array Edge} (i : Nat) {z : Nat} {e : TypeId} (hT : P.underlying T = some (.slice e)) (hs : (P.info? e).map (·.size) = some z) (hd : Nat.blt d n = true)
    (h : ∀ r, OpsE P G R ops n K rest ((d, .slice (some ⟨r, 0, none⟩) 0 0) :: E) ((i, some ⟨r, #[], e⟩) :: M)) : OpsE P G R ops n K (⟨some d, .buildSlice T 0 #[], ty, pos, aft, none⟩ :: rest) E M :=
  fun _ _ ha hM => st_buildSl0 hT hs fun r hr => h r _ _ (ha.put hd _) (hM.alloc i ⟨r, #[], e⟩ hr)
/-! ### A function's end -/
section
variable {P : Program} {G : Mem} {n : Nat}
theorem FitsM.bag_in {M : Mm} {m fz : Mem} (hM : FitsM M m) (hb : Bag fz M) : (fz.map (·.b)).Nodup ∧ ∀ x ∈ fz, x ∈ m := by
  have at_ : ∀ j x, fz[j]? = some x → lkM M (1000 + j) = some x := fun j x hx => by rw [hb _ (by omega), show 1000 + j - 1000 = j by omega]; exact hx
  refine ⟨?_, fun x hx => by
    obtain ⟨j, hj⟩ := List.getElem?_of_mem hx
    exact hM.has _ x (at_ j x hj)⟩
  unfold List.Nodup
  rw [List.pairwise_iff_getElem]
  intro i j hi hj hij e
  have hi' : i < fz.length := by simpa using hi
  have hj' : j < fz.length := by simpa using hj
  have h1 : fz[i]? = some fz[i] := List.getElem?_eq_getElem hi'
  have h2 : fz[j]? = some fz[j] := List.getElem?_eq_getElem hj'
  exact hM.apart _ _ _ _ (at_ i _ h1) (at_ j _ h2) (by omega) (by simpa using e)
/-- Data, in the bag. -/
def EndD (P : Program) (S : Value → Mem → Prop) (fn : Func) : Exit → Env → Mm → Prop
  | .normal, E, M | .ret, E, M => ∃ r v fz, fn.results = #[r] ∧ Res P E M r v ∧ S v fz ∧ Bag fz M
  | _, _, _ => False
def EndD2 (P : Program) (S : Value → Mem → Prop) (u : Value) (fn : Func) : Exit → Env → Mm → Prop
  | .normal, E, M | .ret, E, M => ∃ r r' v fz, fn.results = #[r, r'] ∧ Res P E M r v ∧ Res P E M r' u ∧ S v fz ∧ Bag fz M
  | _, _, _ => False
theorem fxD {f : FuncId} {fn : Func} {c : Code} {args : Array Value} {S : Value → Mem → Prop} (hf : P.funcs[f]? = some fn) (hb : fn.body = some c) (hn : fn.ntmps = n) (ha : args.size ≤ n) (E : Env) (hE : ∀ t v, lk E t = some v → args[t]? = some v)
    (h : SatE P G c n (EndD P S fn) E []) : Fx P G [] f args (fun v l1 nw => l1 = [] ∧ S v nw) :=
  fx_of hf hb (sat_mono (h _ [] ⟨by simp [hn]; omega, rfl, fun t v ht => by
    have := hE t v ht
    have hlt := (Array.getElem?_eq_some_iff.1 this).1
    rw [Array.getElem?_append_left hlt]; exact this⟩ (FitsM.nil _)) fun e' a m ⟨E', M', h1, h0, h2⟩ => by
      have key : (∃ r v fz, fn.results = #[r] ∧ Res P E' M' r v ∧ S v fz ∧ Bag fz M') → a.defers = [] ∧ ∃ v l1 nw, (l1 = [] ∧ S v nw) ∧ (nw.map (·.b)).Nodup ∧ (∀ x ∈ nw, x.b ∉ ([] : Mem).map (·.b)) ∧ (∀ x ∈ l1 ++ nw, x ∈ m) ∧ ∀ w, MemIn m w → (results fn a.tmps).run P w = .ok v w := fun ⟨r, v, fz, hr, hR, ho, hb⟩ =>
        ⟨h1.defers, v, [], fz, ⟨rfl, ho⟩, (h0.bag_in hb).1, by simp, fun x hx => (h0.bag_in hb).2 x (by simpa using hx), fun w hw => by
          have := res_run h1 h0 hw hR
          rw [results_eq, hr, mapM1]
          simp [this]⟩
      cases e' <;> first | exact key h2 | exact h2.elim)
theorem fxD2 {f : FuncId} {fn : Func} {c : Code} {args : Array Value} {S : Value → Mem → Prop} {u : Value} (hf : P.funcs[f]? = some fn) (hb : fn.body = some c) (hn : fn.ntmps = n) (ha : args.size ≤ n) (E : Env) (hE : ∀ t v, lk E t = some v → args[t]? = some v)
    (h : SatE P G c n (EndD2 P S u fn) E []) : Fx P G [] f args (fun v l1 nw => l1 = [] ∧ ∃ v', v = .tuple #[v', u] ∧ S v' nw) :=
  fx_of hf hb (sat_mono (h _ [] ⟨by simp [hn]; omega, rfl, fun t v ht => by
    have := hE t v ht
    have hlt := (Array.getElem?_eq_some_iff.1 this).1
    rw [Array.getElem?_append_left hlt]; exact this⟩ (FitsM.nil _)) fun e' a m ⟨E', M', h1, h0, h2⟩ => by
      have key : (∃ r r' v fz, fn.results = #[r, r'] ∧ Res P E' M' r v ∧ Res P E' M' r' u ∧ S v fz ∧ Bag fz M') → a.defers = [] ∧ ∃ v l1 nw, (l1 = [] ∧ ∃ v', v = Value.tuple #[v', u] ∧ S v' nw) ∧ (nw.map (·.b)).Nodup ∧ (∀ x ∈ nw, x.b ∉ ([] : Mem).map (·.b)) ∧ (∀ x ∈ l1 ++ nw, x ∈ m) ∧ ∀ w, MemIn m w → (results fn a.tmps).run P w = .ok v w := fun ⟨r, r', v, fz, hr, hR, hR', ho, hb⟩ =>
        ⟨h1.defers, .tuple #[v, u], [], fz, ⟨rfl, v, rfl, ho⟩, (h0.bag_in hb).1, by simp, fun x hx => (h0.bag_in hb).2 x (by simpa using hx), fun w hw => by
          have := res_run h1 h0 hw hR
          have t' := res_run h1 h0 hw hR'
          rw [results_eq, hr, mapM2]
          simp [this, t']⟩
      cases e' <;> first | exact key h2 | exact h2.elim)
end
end Go.Proofs.YtpmgjnfllnokjaaDoor

/-
  Walks, written by a program of ours off the loaded functions.
-/
namespace Go.Proofs.YtpmgjnfllnokjaaDoor
open Go Go.RowKit


theorem ent23 : enters Tryd.prog 23 = true := by kernel_rfl

variable {G : Mem}

set_option maxHeartbeats 4000000 in
theorem dadded_fn (h d : Nat → Nat) (n ln : Nat) (v : Value) (l : List Nat) (hv : Shows (DOR :: G) 1 v l.length (l.map by8)) (hlb : ∀ b ∈ l, b < 256) (hd : ∀ j, j < 64 → d j < 256) (hok : okB n ln d = true) (hz : ln + l.length ≤ 1073741824) : Fn Tryd.prog (DOR :: G) 18 #[.agg (cells 74 [pI .u32 8 h, pI .u8 64 d, pV (.int .i64 (n : Int)), pV (.int .i64 (ln : Int))]), v] (.agg (cells 74 [pI .u32 8 (hacc h (ln - n) (sS d n l) (nblk (sS d n l).length)), pI .u8 64 (fun i => ((sS d n l).drop (64 * nblk (sS d n l).length)).getD i 0), pV (.int .i64 (((sS d n l).drop (64 * nblk (sS d n l).length)).length : Nat)), pV (.int .i64 (ln + l.length : Nat))])) := by
  obtain ⟨_, hnl, hn, hmod, _⟩ := okB_open hok
  refine fn1 (n := 38) Tryd.func18 rfl rfl (by simp) (argE [.agg (cells 74 [pI .u32 8 h, pI .u8 64 d, pV (.int .i64 (n : Int)), pV (.int .i64 (ln : Int))]), v] 0) (argE_ok _) ?_
  refine e_seq ?_
  refine e_plain ?_
  refine e_box 0 rfl rfl fun r1 => ?_
  refine e_alloc 1 zer47 rfl fun r2 => ?_
  refine e_nil ?_
  refine e_seq ?_
  refine e_block ?_
  refine e_loopK [(2, _), (4, _)] [(1, _)] (fun kk E m => ∃ (hh : Nat → Nat) (g : Nat → Nat) (nn : Nat) (q : Nat) (bv : Value), kk = ln + l.length - q ∧ E = [(1, bv)] ∧ m = [(0, some ⟨r1, cells 74 [pI .u32 8 hh, pI .u8 64 g, pV (.int .i64 ((nn : Nat) : Int)), pV (.int .i64 ((q : Nat) : Int))], 47⟩)] ∧ (AddInv h d n ln l hh g nn q) ∧ (Shows (DOR :: G) 1 bv (l.drop (q - ln)).length ((l.drop (q - ln)).map by8))) [(1, v)] [(0, some ⟨r1, cells 74 [pI .u32 8 h, pI .u8 64 d, pV (.int .i64 ((n : Nat) : Int)), pV (.int .i64 ((ln : Nat) : Int))], 47⟩)] (ln + l.length - ln) ⟨rfl, rfl, rfl, trivial⟩ ⟨rfl, rfl, trivial⟩ ⟨h, d, n, ln, v, rfl, rfl, rfl, add_first l hok, (by rw [Nat.sub_self]; exact hv)⟩ ?_
  rintro kk E m ⟨hh, g, nn, q, bv, rfl, rfl, rfl, hf0_0, hf0_1⟩
  simp only [catE, catL]
  have hq1 := hf0_0.1
  have hq2 := hf0_0.2.1
  have hnn := add_nn hf0_0
  have hwl : (l.drop (q - ln)).length = l.length - (q - ln) := List.length_drop
  refine e_seq ?_
  refine e_seq ?_
  refine e_plain ?_
  refine e_move rfl rfl ?_
  refine e_lenV hf0_1 und22 rfl rfl rfl ?_
  refine e_gt rfl rfl rfl ?_
  refine e_nil ?_
  refine e_cond rfl ?_ ?_
  · intro hc0
    have hw0 : 0 < (l.drop (q - ln)).length := by have := of_decide_eq_true hc0; omega
    refine e_skip ?_
    refine e_block ?_
    refine e_seq ?_
    refine e_seq ?_
    rcases (by omega : nn = 64 ∨ nn < 64) with hN | hN
    · skip
      refine e_plain ?_
      refine e_fld (72) und47 rfl siz3 rfl rfl rfl ?_
      refine e_ldV1 (i := 0) 2 und3 rfl rfl rfl rfl (by decide) rfl ⟨[], trivial⟩ ?_
      refine e_eq rfl rfl rfl ?_
      refine e_nil ?_
      refine e_cond rfl ?_ ?_
      · intro hc1
        refine e_seq ?_
        refine e_plain ?_
        refine e_loadA (i := 0) und47 rfl siz47 rfl rfl (arrv_size _ _) rfl ⟨[], trivial⟩ ?_
        refine e_call rfl ent23 (dsqz_false hh g nn q (add_lt hd hn hlb hf0_0) (by omega)) rfl rfl ?_
        refine e_fld (0) und47 rfl siz45 rfl rfl rfl ?_
        refine e_stC (i := 0) 0 siz45 rfl rfl rfl rfl (by decide) (.inl rfl) ?_
        refine e_nil ?_
        refine e_plain ?_
        refine e_build0 zer34 und34 sis5 rfl ?_
        refine e_fld (8) und47 rfl siz34 rfl rfl rfl ?_
        refine e_stC (i := 0) 1 siz34 rfl rfl rfl rfl (by decide) (.inl rfl) ?_
        refine e_fld (72) und47 rfl siz3 rfl rfl rfl ?_
        refine e_stV (i := 0) 2 siz3 rfl rfl rfl rfl rfl (by decide) (.inl rfl) ?_
        refine e_nil ?_
        refine e_seq ?_
        refine e_plain ?_
        refine e_fld (8) und47 rfl siz34 rfl rfl rfl ?_
        refine e_fld (72) und47 rfl siz3 rfl rfl rfl ?_
        refine e_ldV1 (i := 0) 2 und3 rfl rfl rfl rfl (by decide) rfl ⟨[], trivial⟩ ?_
        refine e_sliceA 0 64 und34 siz5 rfl rfl rfl ⟨_, rfl⟩ rfl (by omega) (by omega) (by omega) rfl ?_
        refine e_move rfl rfl ?_
        refine e_copyCB (i := 0) (o := 8) (L := 64) 1 (0) und22 siz5 hf0_1 seenG rfl rfl rfl rfl (by omega) (by omega) (by decide) rfl ?_
        refine e_assign rfl rfl ?_
        refine e_nil ?_
        refine e_seq ?_
        refine e_plain ?_
        refine e_fld (72) und47 rfl siz3 rfl rfl rfl ?_
        refine e_ldV1 (i := 0) 2 und3 rfl rfl rfl rfl (by decide) rfl ⟨[], trivial⟩ ?_
        refine e_as (show _ = ii 0 from rfl) ?_
        refine e_move rfl rfl ?_
        refine e_add_i rfl rfl rfl (by omega) ?_
        refine e_fld (72) und47 rfl siz3 rfl rfl rfl ?_
        refine e_stV (i := 0) 2 siz3 rfl rfl rfl rfl rfl (by decide) (.inl rfl) ?_
        refine e_nil ?_
        refine e_seq ?_
        refine e_plain ?_
        refine e_fld (73) und47 rfl siz3 rfl rfl rfl ?_
        refine e_ldV1 (i := 0) 3 und3 rfl rfl rfl rfl (by decide) rfl ⟨[], trivial⟩ ?_
        refine e_move rfl rfl ?_
        refine e_add_i rfl rfl rfl (by omega) ?_
        refine e_fld (73) und47 rfl siz3 rfl rfl rfl ?_
        refine e_stV (i := 0) 3 siz3 rfl rfl rfl rfl rfl (by decide) (.inl rfl) ?_
        refine e_nil ?_
        refine e_plain ?_
        refine e_move rfl rfl ?_
        refine e_move rfl rfl ?_
        refine e_sliceV _ (l.drop (q - ln)).length hf0_1 und22 siz5 rfl rfl rfl ⟨_, rfl⟩ rfl (by omega) (by omega) rfl ?_
        refine e_assign rfl rfl ?_
        refine e_nil ?_
        refine ⟨_, [(1, _)], [(0, some ⟨r1, cells 74 [pI .u32 8 _, pI .u8 64 _, pV (.int .i64 ((_ : Nat) : Int)), pV (.int .i64 ((_ : Nat) : Int))], 47⟩)], ?_, ⟨rfl, rfl, rfl, trivial⟩, ⟨rfl, rfl, trivial⟩, _, _, _, _, _, rfl, rfl, rfl, (by first | exact add_full hnl hf0_0 hN hmod rfl hw0 rfl (fun _ _ => rfl) rfl rfl | exact add_more hf0_0 hN rfl hw0 (fun _ _ => rfl) rfl rfl), (add_shows hf0_1 (by omega) hq1)⟩
        omega
      · intro hc1
        exact absurd (of_decide_eq_false hc1) (by omega)
    · skip
      refine e_plain ?_
      refine e_fld (72) und47 rfl siz3 rfl rfl rfl ?_
      refine e_ldV1 (i := 0) 2 und3 rfl rfl rfl rfl (by decide) rfl ⟨[], trivial⟩ ?_
      refine e_eq rfl rfl rfl ?_
      refine e_nil ?_
      refine e_cond rfl ?_ ?_
      · intro hc1
        exact absurd (of_decide_eq_true hc1) (by omega)
      · intro hc1
        refine e_skip ?_
        refine e_seq ?_
        refine e_plain ?_
        refine e_fld (8) und47 rfl siz34 rfl rfl rfl ?_
        refine e_fld (72) und47 rfl siz3 rfl rfl rfl ?_
        refine e_ldV1 (i := 0) 2 und3 rfl rfl rfl rfl (by decide) rfl ⟨[], trivial⟩ ?_
        refine e_sliceA nn 64 und34 siz5 rfl rfl rfl ⟨_, rfl⟩ rfl (by omega) (by omega) (by omega) rfl ?_
        refine e_move rfl rfl ?_
        refine e_copyCB (i := 0) (o := 8) (L := 64) 1 (nn) und22 siz5 hf0_1 seenG rfl rfl rfl rfl (by omega) (by omega) (by decide) rfl ?_
        refine e_assign rfl rfl ?_
        refine e_nil ?_
        refine e_seq ?_
        refine e_plain ?_
        refine e_fld (72) und47 rfl siz3 rfl rfl rfl ?_
        refine e_ldV1 (i := 0) 2 und3 rfl rfl rfl rfl (by decide) rfl ⟨[], trivial⟩ ?_
        refine e_move rfl rfl ?_
        refine e_add_i rfl rfl rfl (by omega) ?_
        refine e_fld (72) und47 rfl siz3 rfl rfl rfl ?_
        refine e_stV (i := 0) 2 siz3 rfl rfl rfl rfl rfl (by decide) (.inl rfl) ?_
        refine e_nil ?_
        refine e_seq ?_
        refine e_plain ?_
        refine e_fld (73) und47 rfl siz3 rfl rfl rfl ?_
        refine e_ldV1 (i := 0) 3 und3 rfl rfl rfl rfl (by decide) rfl ⟨[], trivial⟩ ?_
        refine e_move rfl rfl ?_
        refine e_add_i rfl rfl rfl (by omega) ?_
        refine e_fld (73) und47 rfl siz3 rfl rfl rfl ?_
        refine e_stV (i := 0) 3 siz3 rfl rfl rfl rfl rfl (by decide) (.inl rfl) ?_
        refine e_nil ?_
        refine e_plain ?_
        refine e_move rfl rfl ?_
        refine e_move rfl rfl ?_
        refine e_sliceV _ (l.drop (q - ln)).length hf0_1 und22 siz5 rfl rfl rfl ⟨_, rfl⟩ rfl (by omega) (by omega) rfl ?_
        refine e_assign rfl rfl ?_
        refine e_nil ?_
        refine ⟨_, [(1, _)], [(0, some ⟨r1, cells 74 [pI .u32 8 _, pI .u8 64 _, pV (.int .i64 ((_ : Nat) : Int)), pV (.int .i64 ((_ : Nat) : Int))], 47⟩)], ?_, ⟨rfl, rfl, rfl, trivial⟩, ⟨rfl, rfl, trivial⟩, _, _, _, _, _, rfl, rfl, rfl, (by first | exact add_full hnl hf0_0 hN hmod rfl hw0 rfl (fun _ _ => rfl) rfl rfl | exact add_more hf0_0 hN rfl hw0 (fun _ _ => rfl) rfl rfl), (add_shows hf0_1 (by omega) hq1)⟩
        omega
  · intro hc0
    have hw0 : (l.drop (q - ln)).length = 0 := by have := of_decide_eq_false hc0; omega
    obtain ⟨a1, a2, a3, a4⟩ := add_last hf0_0 hw0
    refine e_exit ?_
    refine e_seq ?_
    refine e_plain ?_
    refine e_loadA (i := 0) und47 rfl siz47 rfl rfl (arrv_size _ _) rfl ⟨[], trivial⟩ ?_
    refine e_as (Eq.trans (show _ = .agg (cells 74 [pI .u32 8 hh, pI .u8 64 g, pV (.int .i64 ((nn : Nat) : Int)), pV (.int .i64 ((q : Nat) : Int))]) from rfl) (cH_congr a1 a2 a3 a4)) ?_
    refine e_storeA (i := 1) siz47 rfl rfl (arrv_size _ _) (cells_one ⟨fun _ => rfl, fun _ => rfl, fun _ => rfl, fun _ => rfl, trivial⟩) rfl cells_sz (.inl rfl) ?_
    refine e_nil ?_
    refine e_ret ?_
    exact ⟨_, rfl, .cell (i := 1) rfl rfl und47 rfl siz47 (arrv_size _ _)⟩

set_option maxHeartbeats 2000000 in
theorem dended6_fn (h d : Nat → Nat) (n ln : Nat) (hd : ∀ j, j < 64 → d j < 256) (hl : ln < 4294967296) : Fn Tryd.prog (DOR :: G) 17 #[.agg (cells 74 [pI .u32 8 h, pI .u8 64 d, pV (.int .i64 (n : Int)), pV (.int .i64 (ln : Int))])] (.agg (arr .u8 32 (hsumf (sqz h ((List.range 64).map d) ln true)))) := by
  obtain ⟨w, hw⟩ : ∃ w, w = (sqz h ((List.range 64).map d) ln true) := ⟨_, rfl⟩
  rw [← hw]
  refine fn1 (n := 24) Tryd.func17 rfl rfl (by simp) (argE [.agg (cells 74 [pI .u32 8 h, pI .u8 64 d, pV (.int .i64 (n : Int)), pV (.int .i64 (ln : Int))])] 0) (argE_ok _) ?_
  refine e_seq ?_
  refine e_plain ?_
  refine e_box 0 rfl rfl fun r1 => ?_
  refine e_alloc 1 zer24 rfl fun r2 => ?_
  refine e_nil ?_
  refine e_seq ?_
  refine e_plain ?_
  refine e_loadA (i := 0) und47 rfl siz47 rfl rfl (arrv_size _ _) rfl ⟨[], trivial⟩ ?_
  refine e_call rfl ent23 (dsqz_true h d n ln hd hl) rfl rfl ?_
  refine e_as (congrArg (fun f => Value.agg (arr .u32 8 f)) hw.symm) ?_
  refine e_alloc 2 zer45 rfl fun r3 => ?_
  refine e_storeA (i := 2) siz45 rfl rfl (arr_size _ _ _) arr_one rfl (arr_sz _ _ _ _ _) (.inl rfl) ?_
  refine e_nil ?_
  refine e_seq ?_
  refine e_plain ?_
  refine e_alloc 3 zer24 rfl fun r4 => ?_
  refine e_nil ?_
  refine e_seq ?_
  refine e_seq ?_
  refine e_plain ?_
  refine e_move rfl rfl ?_
  refine e_nil ?_
  refine e_block ?_
  refine e_loopK [(2, _), (3, _), (4, _)] [(0, _), (1, _), (2, _)] (fun kk E m => ∃ (i : Nat) (s : Nat → Nat), kk = 32 - i ∧ E = [(8, ii i)] ∧ m = [(3, some ⟨r4, arr .u8 32 s, 24⟩)] ∧ (i ≤ 32) ∧ (∀ t, t < i → s t = hsumf w t)) [(8, ii 0)] [(3, some ⟨r4, arr .u8 32 (fun _ => 0), 24⟩)] (32 - 0) ⟨rfl, rfl, rfl, rfl, trivial⟩ ⟨rfl, rfl, rfl, rfl, trivial⟩ ⟨0, fun _ => 0, rfl, rfl, rfl, by omega, fun t ht => absurd ht (Nat.not_lt_zero t)⟩ ?_
  rintro kk E m ⟨i, s, rfl, rfl, rfl, hf0_0, hf0_1⟩
  simp only [catE, catL]
  refine e_seq ?_
  refine e_plain ?_
  refine e_lt rfl rfl rfl ?_
  refine e_nil ?_
  refine e_seq ?_
  refine e_cond rfl ?_ ?_
  · intro hc0
    have hc0 : i < 32 := by have := of_decide_eq_true hc0; omega
    refine e_skip ?_
    refine e_seq ?_
    refine e_block ?_
    refine e_seq ?_
    refine e_plain ?_
    refine e_move rfl rfl ?_
    refine e_assign rfl rfl ?_
    refine e_nil ?_
    refine e_plain ?_
    refine e_move rfl rfl ?_
    refine e_move rfl rfl ?_
    refine e_quo_i (q := 4) rfl rfl rfl (by omega) (by omega) ?_
    refine e_index0 und45 siz44 rfl rfl (by omega) rfl ?_
    refine e_load1 (i := 2) und44 rfl rfl rfl (arr_get (by omega)) rfl ⟨[], trivial⟩ ?_
    refine e_move rfl rfl ?_
    refine e_rem_i (q := 4) rfl rfl rfl (by omega) ?_
    refine e_mul_i (q := 8) rfl rfl rfl (by omega) ?_
    refine e_shr_w rfl rfl rfl (by omega) ?_
    refine e_conv_u8 und44 und5 rfl rfl rfl ?_
    refine e_index0 und24 siz5 rfl rfl (by omega) rfl ?_
    refine e_storeN (i := 3) siz5 rfl rfl rfl (by omega) (.inl rfl) ?_
    refine e_nil ?_
    refine e_plain ?_
    refine e_add_i (q := 1) rfl rfl rfl (by omega) ?_
    refine e_move rfl rfl ?_
    refine e_nil ?_
    refine ⟨_, [(8, ii (i + 1))], [(3, some ⟨r4, arr .u8 32 (upd s i _), 24⟩)], ?_, ⟨rfl, rfl, rfl, rfl, trivial⟩, ⟨rfl, rfl, rfl, rfl, trivial⟩, i + 1, upd s i _, rfl, rfl, rfl, by omega, upd_lt hf0_1 (hsum_at w (by omega))⟩
    omega
  · intro hc0
    have hc0 := of_decide_eq_false hc0
    have hz0 : i = 32 := by omega
    subst hz0
    refine e_exit ?_
    refine e_seq ?_
    refine e_plain ?_
    refine e_loadA (i := 3) und24 rfl siz24 rfl rfl (arr_size _ _ _) rfl ⟨[], trivial⟩ ?_
    refine e_storeA (i := 1) siz24 rfl rfl (arr_size _ _ _) arr_one rfl (arr_sz _ _ _ _ _) (.inl rfl) ?_
    refine e_nil ?_
    refine e_ret ?_
    rw [← arr_congr (k := .u8) (n := 32) hf0_1]
    exact ⟨_, rfl, .cell (i := 1) rfl rfl und24 rfl siz24 (arr_size _ _ _)⟩

end Go.Proofs.YtpmgjnfllnokjaaDoor

/-
  Walks, written by a program of ours off the loaded functions.
-/
namespace Go.Proofs.YtpmgjnfllnokjaaDoor
open Go Go.RowKit


theorem dadded_msg {G : Mem} (m : List Nat) (v : Value) (l : List Nat) (hm : ∀ b ∈ m, b < 256) (hv : Shows (DOR :: G) 1 v l.length (l.map by8)) (hlb : ∀ b ∈ l, b < 256) (hz : m.length + l.length ≤ 1073741824) :
    Fn Tryd.prog (DOR :: G) 18 #[stB m, v] (stB (m ++ l)) := by
  have h := dadded_fn (G := G) (hmsg m) (heldB m) (rem64 m).length m.length v l hv hlb (fun j _ => heldB_lt hm j) (ok_heldB m) hz
  rw [sS_heldB, base_of, hmsg_app, rem64_app, ← List.length_append] at h
  exact h
theorem dended_msg {G : Mem} (m : List Nat) (hm : ∀ b ∈ m, b < 256) (hz : m.length ≤ 1073741824) : Fn Tryd.prog (DOR :: G) 17 #[stB m] (.agg (arr .u8 32 (bsum m))) := by
  have h := dended6_fn (G := G) (hmsg m) (heldB m) (rem64 m).length m.length (fun j _ => heldB_lt hm j) (by omega)
  rw [← bsum_small hz] at h
  exact h
theorem dBegin_msg {G : Mem} : Fn Tryd.prog G 19 #[] (stB []) := by
  rw [← stB_nil]; exact dbegin6_fn

theorem ent17 : enters Tryd.prog 17 = true := by kernel_rfl
theorem ent18 : enters Tryd.prog 18 = true := by kernel_rfl
theorem ent19 : enters Tryd.prog 19 = true := by kernel_rfl

variable {G : Mem}

set_option maxHeartbeats 400000 in
theorem dsum6_fn (v : Value) (l : List Nat) (hv : Shows (DOR :: G) 1 v l.length (l.map by8)) (hlb : ∀ b ∈ l, b < 256) (hz : l.length ≤ 1073741824) : Fn Tryd.prog (DOR :: G) 11 #[v] (.agg (arr .u8 32 (bsum l))) := by
  refine fn1 (n := 7) Tryd.func11 rfl rfl (by simp) (argE [v] 0) (argE_ok _) ?_
  refine e_seq ?_
  refine e_plain ?_
  refine e_alloc 0 zer24 rfl fun r1 => ?_
  refine e_nil ?_
  refine e_seq ?_
  refine e_plain ?_
  refine e_call rfl ent19 dBegin_msg rfl rfl ?_
  refine e_move rfl rfl ?_
  refine e_call rfl ent18 (dadded_msg [] v l (by simp) hv hlb (by simpa using hz)) rfl rfl ?_
  refine e_as (show _ = stB l from rfl) ?_
  refine e_call rfl ent17 (dended_msg l hlb hz) rfl rfl ?_
  refine e_storeA (i := 0) siz24 rfl rfl (arr_size _ _ _) arr_one rfl (arr_sz _ _ _ _ _) (.inl rfl) ?_
  refine e_nil ?_
  refine e_ret ?_
  exact ⟨_, rfl, .cell (i := 0) rfl rfl und24 rfl siz24 (arr_size _ _ _)⟩

end Go.Proofs.YtpmgjnfllnokjaaDoor

/-
  Keys that are made of keys, in the developers' way: blocks that are turned, lists behind one another.
-/
namespace Go.Proofs.YtpmgjnfllnokjaaDoor
open Go Go.RowKit

theorem tur_first {k : Nat → Nat} {x n : Nat} : ∀ t, t < n → k t = if t < 0 then (k t ^^^ x) % 256 else k t := fun t _ => by rw [if_neg (Nat.not_lt_zero t)]
theorem tur_next {k s : Nat → Nat} {x i n v : Nat} (h : ∀ t, t < n → s t = if t < i then (k t ^^^ x) % 256 else k t) (hi : i < n) (hv : v = (s i ^^^ x) % 256) : ∀ t, t < n → upd s i v t = if t < i + 1 then (k t ^^^ x) % 256 else k t := fun t ht => by
  unfold upd
  by_cases e : t = i
  · subst e
    have hs := h t ht
    rw [if_neg (Nat.lt_irrefl t)] at hs
    rw [if_pos rfl, if_pos (by omega), hv, hs]
  · rw [if_neg e, h t ht]
    by_cases h1 : t < i
    · rw [if_pos h1, if_pos (by omega)]
    · rw [if_neg h1, if_neg (by omega)]
theorem tur_last {p : List Nat} {s : Nat → Nat} {x : Nat} (hp : p.length = 64) (h : ∀ t, t < 64 → s t = if t < 64 then (p.getD t 0 ^^^ x) % 256 else p.getD t 0) : ∀ t, t < 64 → s t = (xorl p x).getD t 0 := fun t ht => by
  rw [h t ht, if_pos ht]
  simp [xorl, List.getD_eq_getElem?_getD, List.getElem?_eq_getElem (show t < p.length by omega)]
theorem fit_at {k l : List Nat} (h : mkey k = l) (hl : l.length ≤ 64) {n : Nat} (hn : n = min l.length 64) : ∀ j, j < 64 → (if 0 ≤ j ∧ j < 0 + n then l.getD (j - 0) 0 else 0) = (mpad k).getD j 0 := fun j hj => by
  unfold mpad
  rw [h, Nat.sub_zero, List.getD_eq_getElem?_getD, List.getD_eq_getElem?_getD]
  by_cases hk : j < l.length
  · rw [if_pos (by omega), List.getElem?_append_left hk]
  · rw [if_neg (by omega), List.getElem?_append_right (by omega)]
    rw [← List.getD_eq_getElem?_getD]
    exact zrs_at (by omega)
theorem shows32 (r : Nat) (f : Nat → Nat) (t : TypeId) : Shows [⟨r, arr .u8 32 f, t⟩] 1 (.slice (some ⟨r, 0, none⟩) 32 32) ((List.range 32).map f).length (((List.range 32).map f).map by8) := by
  have h := arr_shows r 32 f t 0 32 32 (by decide) (by decide)
  simp only [Nat.zero_add] at h
  exact h

end Go.Proofs.YtpmgjnfllnokjaaDoor

/-
  Walks, written by a program of ours off the loaded functions.
-/
namespace Go.Proofs.YtpmgjnfllnokjaaDoor
open Go Go.RowKit


theorem siz22 : (Tryd.prog.info? 22).map (·.size) = some 1 := by kernel_rfl
theorem und35 : Tryd.prog.underlying 35 = some (.array 64 5) := by kernel_rfl
theorem und50 : Tryd.prog.underlying 50 = some (.slice 22) := by kernel_rfl

variable {G : Mem}

set_option maxHeartbeats 2000000 in
theorem djoined_fn (v : Value) (vs : List Value) (ls : List (List Nat)) (hv : Shows G 1 v vs.length vs) (hL : ShowsL G vs ls) (hn : vs.length ≤ 1099511627776) (hm : ls.flatten.length ≤ 1099511627776) : Fx Tryd.prog G [] 12 #[v] (fun v l1 nw => l1 = [] ∧ ∃ v', v = v' ∧ OwnS 5 1 v' ls.flatten.length (ls.flatten.map by8) nw) := by
  have hvl := hL.1
  have hup := upto_le ls
  refine fxN (n := 17) Tryd.func12 rfl rfl (by simp) (argE [v] 0) (argE_ok _) ?_
  refine e_seq ?_
  refine e_plain ?_
  refine e_assign rfl rfl ?_
  refine e_nil ?_
  refine e_seq ?_
  refine e_plain ?_
  refine e_assign rfl rfl ?_
  refine e_nil ?_
  refine e_seq ?_
  refine e_seq ?_
  refine e_plain ?_
  refine e_move rfl rfl ?_
  refine e_lenV hv und50 rfl rfl rfl ?_
  refine e_move rfl rfl ?_
  refine e_nil ?_
  refine e_block ?_
  refine e_loopK [(2, _), (6, _), (7, _)] [] (fun kk E m => ∃ (j : Nat) (w : Value) (oz : Option Blk), kk = vs.length - j ∧ E = [(3, w), (8, ii j)] ∧ m = [(50, oz)] ∧ (j ≤ vs.length) ∧ (OwnS 5 1 w (upto ls j).length ((upto ls j).map by8) (Option.toList oz))) [(3, nilS), (8, ii 0)] [(50, none)] (vs.length - 0) ⟨rfl, rfl, rfl, rfl, rfl, trivial⟩ ⟨rfl, trivial⟩ ⟨0, nilS, none, rfl, rfl, rfl, by omega, (own_nil _ _)⟩ ?_
  rintro kk E m ⟨j, w, oz, rfl, rfl, rfl, hf0_0, hf0_1⟩
  simp only [catE, catL]
  have hs3 := hup (j + 1)
  have hs4 : j < ls.length → (upto ls (j + 1)).length = (upto ls j).length + (ls.getD j []).length := fun h => by rw [upto_next h, List.length_append]
  refine e_seq ?_
  refine e_plain ?_
  refine e_lt rfl rfl rfl ?_
  refine e_nil ?_
  refine e_seq ?_
  refine e_cond rfl ?_ ?_
  · intro hc0
    have hc0 : j < vs.length := by have := of_decide_eq_true hc0; omega
    refine e_skip ?_
    refine e_seq ?_
    refine e_block ?_
    refine e_seq ?_
    refine e_plain ?_
    refine e_atV hv und50 siz22 rfl rfl (by omega) rfl ?_
    refine e_as (congrArg (slAddr _) (Nat.mul_one _)) ?_
    refine e_loadV hv seenG und22 rfl rfl (get_getD (by omega)) rfl ?_
    refine e_assign rfl rfl ?_
    refine e_nil ?_
    refine e_plain ?_
    refine e_move rfl rfl ?_
    refine e_move rfl rfl ?_
    refine e_append 50 hf0_1 (hL.2 j (by omega)) rfl seenG und22 siz5 byt5 zer5 (by rfl) rfl rfl by8_one (by have := hs4 (by omega); simp only [maxLen]; omega) (by have := hs4 (by omega); omega) rfl fun v2_1 oz2_1 ho2_1 => ?_
    refine e_assign rfl rfl ?_
    refine e_nil ?_
    refine e_plain ?_
    refine e_add_i (q := 1) rfl rfl rfl (by omega) ?_
    refine e_move rfl rfl ?_
    refine e_nil ?_
    refine ⟨_, [(3, _), (8, ii (j + 1))], [(50, _)], ?_, ⟨rfl, rfl, rfl, rfl, rfl, trivial⟩, ⟨rfl, trivial⟩, j + 1, _, _, rfl, rfl, rfl, by omega, (own_fix ho2_1 (by rw [upto_next (by omega), List.length_append]) (by rw [upto_next (by omega), List.map_append]))⟩
    omega
  · intro hc0
    have hc0 := of_decide_eq_false hc0
    have hz0 : j = vs.length := by omega
    refine e_exit ?_
    refine e_seq ?_
    refine e_plain ?_
    refine e_move rfl rfl ?_
    refine e_assign rfl rfl ?_
    refine e_nil ?_
    refine e_ret ?_
    exact ⟨_, _, _, 50, rfl, .tmp rfl, (own_fix hf0_1 (by rw [hz0, hvl, upto_all]) (by rw [hz0, hvl, upto_all])), rfl⟩

set_option maxHeartbeats 2000000 in
theorem dturned_fn (p : List Nat) (x : Nat) (hp : p.length = 64) : Fx Tryd.prog G [] 13 #[.agg (arr .u8 64 (fun j => p.getD j 0)), by8 x] (fun v l1 nw => l1 = [] ∧ ∃ v', v = v' ∧ OwnS 35 1 v' 64 ((xorl p x).map by8) nw) := by
  refine fxN (n := 17) Tryd.func13 rfl rfl (by simp) (argE [.agg (arr .u8 64 (fun j => p.getD j 0)), by8 x] 0) (argE_ok _) ?_
  refine e_seq ?_
  refine e_plain ?_
  refine e_box 0 rfl rfl fun r1 => ?_
  refine e_assign rfl rfl ?_
  refine e_nil ?_
  refine e_seq ?_
  refine e_seq ?_
  refine e_plain ?_
  refine e_move rfl rfl ?_
  refine e_nil ?_
  refine e_block ?_
  refine e_loopK [(1, _), (2, _), (4, _)] [] (fun kk E m => ∃ (i : Nat) (s : Nat → Nat), kk = 64 - i ∧ E = [(6, ii i)] ∧ m = [(0, some ⟨r1, arr .u8 64 s, 35⟩)] ∧ (i ≤ 64) ∧ (∀ t, t < 64 → s t = if t < i then (p.getD t 0 ^^^ x) % 256 else p.getD t 0)) [(6, ii 0)] [(0, some ⟨r1, arr .u8 64 ((fun j => p.getD j 0)), 35⟩)] (64 - 0) ⟨rfl, rfl, rfl, rfl, trivial⟩ ⟨rfl, trivial⟩ ⟨0, (fun j => p.getD j 0), rfl, rfl, rfl, by omega, tur_first (k := fun j => p.getD j 0)⟩ ?_
  rintro kk E m ⟨i, s, rfl, rfl, rfl, hf0_0, hf0_1⟩
  simp only [catE, catL]
  refine e_seq ?_
  refine e_plain ?_
  refine e_lt rfl rfl rfl ?_
  refine e_nil ?_
  refine e_seq ?_
  refine e_cond rfl ?_ ?_
  · intro hc0
    have hc0 : i < 64 := by have := of_decide_eq_true hc0; omega
    refine e_skip ?_
    refine e_seq ?_
    refine e_block ?_
    refine e_seq ?_
    refine e_plain ?_
    refine e_move rfl rfl ?_
    refine e_assign rfl rfl ?_
    refine e_nil ?_
    refine e_plain ?_
    refine e_move rfl rfl ?_
    refine e_index0 und35 siz5 rfl rfl (by omega) rfl ?_
    refine e_load1 (i := 0) und5 rfl rfl rfl (arr_get (by omega)) rfl ⟨[], trivial⟩ ?_
    refine e_move rfl rfl ?_
    refine e_xor_b rfl rfl rfl  ?_
    refine e_index0 und35 siz5 rfl rfl (by omega) rfl ?_
    refine e_storeN (i := 0) siz5 rfl rfl rfl (by omega) (.inl rfl) ?_
    refine e_nil ?_
    refine e_plain ?_
    refine e_add_i (q := 1) rfl rfl rfl (by omega) ?_
    refine e_move rfl rfl ?_
    refine e_nil ?_
    refine ⟨_, [(6, ii (i + 1))], [(0, some ⟨r1, arr .u8 64 (upd s i _), 35⟩)], ?_, ⟨rfl, rfl, rfl, rfl, trivial⟩, ⟨rfl, trivial⟩, i + 1, upd s i _, rfl, rfl, rfl, by omega, (tur_next (k := fun j => p.getD j 0) hf0_1 (by omega) rfl)⟩
    omega
  · intro hc0
    have hc0 := of_decide_eq_false hc0
    have hz0 : i = 64 := by omega
    subst hz0
    refine e_exit ?_
    refine e_seq ?_
    refine e_plain ?_
    refine e_sliceA 0 64 und35 siz5 rfl rfl rfl rfl rfl (by omega) (by omega) (by omega) rfl ?_
    refine e_assign rfl rfl ?_
    refine e_nil ?_
    refine e_ret ?_
    exact ⟨_, _, _, 0, rfl, .tmp rfl, (own_made ((xorl_len p x).trans hp) (by decide) (tur_last hp hf0_1)), rfl⟩

end Go.Proofs.YtpmgjnfllnokjaaDoor

/-
  Walks, written by a program of ours off the loaded functions.
-/
namespace Go.Proofs.YtpmgjnfllnokjaaDoor
open Go Go.RowKit


theorem ent11 : enters Tryd.prog 11 = true := by kernel_rfl
theorem siz35 : (Tryd.prog.info? 35).map (·.size) = some 64 := by kernel_rfl
theorem zer35 : (Tryd.prog.info? 35).bind (·.zero) = some (.agg (arr .u8 64 fun _ => 0)) := by kernel_rfl

variable {G : Mem}

set_option maxHeartbeats 2000000 in
theorem dfit_long (v : Value) (k : List Nat) (hv : Shows (DOR :: G) 1 v k.length (k.map by8)) (hb : ∀ b ∈ k, b < 256) (hz : k.length ≤ 1073741824) (hkl : 64 < k.length) : Fn Tryd.prog (DOR :: G) 10 #[v] (.agg (arr .u8 64 (fun j => (mpad k).getD j 0))) := by
  have hmk : mkey k = (bsl k) := if_pos hkl
  have hkle := mkey_le k
  rw [hmk] at hkle
  refine fn1 (n := 15) Tryd.func10 rfl rfl (by simp) (argE [v] 0) (argE_ok _) ?_
  refine e_seq ?_
  refine e_plain ?_
  refine e_alloc 0 zer35 rfl fun r1 => ?_
  refine e_nil ?_
  refine e_seq ?_
  refine e_plain ?_
  refine e_alloc 1 zer35 rfl fun r2 => ?_
  refine e_nil ?_
  refine e_seq ?_
  refine e_seq ?_
  refine e_plain ?_
  refine e_move rfl rfl ?_
  refine e_lenV hv und22 rfl rfl rfl ?_
  refine e_gt rfl rfl rfl ?_
  refine e_as (congrArg Value.bool (decide_eq_true (by omega))) ?_
  refine e_nil ?_
  refine e_cond rfl ?_ ?_
  · intro hc0
    refine e_seq ?_
    refine e_plain ?_
    refine e_move rfl rfl ?_
    refine e_call rfl ent11 (dsum6_fn v k hv hb hz) rfl rfl ?_
    refine e_alloc 2 zer24 rfl fun r3 => ?_
    refine e_storeA (i := 2) siz24 rfl rfl (arr_size _ _ _) arr_one rfl (arr_sz _ _ _ _ _) (.inl rfl) ?_
    refine e_nil ?_
    refine e_plain ?_
    refine e_sliceA 0 32 und24 siz5 rfl rfl rfl rfl rfl (by omega) (by omega) (by omega) rfl ?_
    refine e_assign rfl rfl ?_
    refine e_nil ?_
    refine e_seq ?_
    refine e_plain ?_
    refine e_sliceA 0 64 und35 siz5 rfl rfl rfl rfl rfl (by omega) (by omega) (by omega) rfl ?_
    refine e_move rfl rfl ?_
    refine e_copyB (i := 1) und22 siz5 (show Shows _ 1 _ (bsl k).length ((bsl k).map by8) from shows32 _ (bsum k) _) (seen1 2 rfl ⟨[], trivial⟩) rfl rfl rfl (by omega) rfl ?_
    refine e_nil ?_
    refine e_seq ?_
    refine e_plain ?_
    refine e_loadA (i := 1) und35 rfl siz35 rfl rfl (arr_size _ _ _) rfl ⟨[], trivial⟩ ?_
    refine e_as (congrArg Value.agg (arr_congr (fit_at hmk hkle rfl))) ?_
    refine e_storeA (i := 0) siz35 rfl rfl (arr_size _ _ _) arr_one rfl (arr_sz _ _ _ _ _) (.inl rfl) ?_
    refine e_nil ?_
    refine e_ret ?_
    exact ⟨_, rfl, .cell (i := 0) rfl rfl und35 rfl siz35 (arr_size _ _ _)⟩
  · intro hc0
    cases hc0

set_option maxHeartbeats 2000000 in
theorem dfit_short (v : Value) (k : List Nat) (hv : Shows (DOR :: G) 1 v k.length (k.map by8)) (hkl : ¬ 64 < k.length) : Fn Tryd.prog (DOR :: G) 10 #[v] (.agg (arr .u8 64 (fun j => (mpad k).getD j 0))) := by
  have hmk : mkey k = k := if_neg hkl
  have hkle := mkey_le k
  rw [hmk] at hkle
  refine fn1 (n := 15) Tryd.func10 rfl rfl (by simp) (argE [v] 0) (argE_ok _) ?_
  refine e_seq ?_
  refine e_plain ?_
  refine e_alloc 0 zer35 rfl fun r1 => ?_
  refine e_nil ?_
  refine e_seq ?_
  refine e_plain ?_
  refine e_alloc 1 zer35 rfl fun r2 => ?_
  refine e_nil ?_
  refine e_seq ?_
  refine e_seq ?_
  refine e_plain ?_
  refine e_move rfl rfl ?_
  refine e_lenV hv und22 rfl rfl rfl ?_
  refine e_gt rfl rfl rfl ?_
  refine e_as (congrArg Value.bool (decide_eq_false (by omega))) ?_
  refine e_nil ?_
  refine e_cond rfl ?_ ?_
  · intro hc0
    cases hc0
  · intro hc0
    refine e_skip ?_
    refine e_seq ?_
    refine e_plain ?_
    refine e_sliceA 0 64 und35 siz5 rfl rfl rfl rfl rfl (by omega) (by omega) (by omega) rfl ?_
    refine e_move rfl rfl ?_
    refine e_copyB (i := 1) und22 siz5 hv seenG rfl rfl rfl (by omega) rfl ?_
    refine e_nil ?_
    refine e_seq ?_
    refine e_plain ?_
    refine e_loadA (i := 1) und35 rfl siz35 rfl rfl (arr_size _ _ _) rfl ⟨[], trivial⟩ ?_
    refine e_as (congrArg Value.agg (arr_congr (fit_at hmk hkle rfl))) ?_
    refine e_storeA (i := 0) siz35 rfl rfl (arr_size _ _ _) arr_one rfl (arr_sz _ _ _ _ _) (.inl rfl) ?_
    refine e_nil ?_
    refine e_ret ?_
    exact ⟨_, rfl, .cell (i := 0) rfl rfl und35 rfl siz35 (arr_size _ _ _)⟩

end Go.Proofs.YtpmgjnfllnokjaaDoor

/-
  Walks, written by a program of ours off the loaded functions.
-/
namespace Go.Proofs.YtpmgjnfllnokjaaDoor
open Go Go.RowKit


theorem djoined2 {G : Mem} (r : Nat) (v1 v2 : Value) (a b : List Nat) (h1 : Shows G 1 v1 a.length (a.map by8)) (h2 : Shows G 1 v2 b.length (b.map by8)) (hr : (⟨r, [v1, v2].toArray, 22⟩ : Blk) ∈ G) (hm : a.length + b.length ≤ 1099511627776) :
    Fx Tryd.prog G [] 12 #[.slice (some ⟨r, 0, none⟩) 2 2] (fun v l1 nw => l1 = [] ∧ ∃ v', v = v' ∧ OwnS 5 1 v' (a ++ b).length ((a ++ b).map by8) nw) := by
  have h := djoined_fn (G := G) (.slice (some ⟨r, 0, none⟩) 2 2) [v1, v2] [a, b] ((shows_new (r := r) (len := 2) (z := 1) [v1, v2].toArray 22 rfl).mono (fun x hx => by simp at hx; subst hx; exact hr)) (showsL_cons h1 (showsL_cons h2 (showsL_nil _))) (Nat.le_of_ble_eq_true rfl) (by simp; omega)
  have e : [a, b].flatten = a ++ b := by simp
  rw [e] at h
  exact h
theorem dfit_fn {G : Mem} (v : Value) (k : List Nat) (hv : Shows (DOR :: G) 1 v k.length (k.map by8)) (hb : ∀ b ∈ k, b < 256) (hz : k.length ≤ 1073741824) : Fn Tryd.prog (DOR :: G) 10 #[v] (.agg (arr .u8 64 (fun j => (mpad k).getD j 0))) := by
  by_cases h : 64 < k.length
  · exact dfit_long v k hv hb hz h
  · exact dfit_short v k hv h
theorem dsum7 {G X : Mem} (v : Value) (l : List Nat) (hv : Shows X 1 v l.length (l.map by8)) (hlb : ∀ b ∈ l, b < 256) (hz : l.length ≤ 1073741824) : Fn Tryd.prog ((DOR :: G) ++ X) 11 #[v] (.agg (arr .u8 32 (bsum l))) :=
  dsum6_fn (G := G ++ X) v l (hv.mono fun _ h => List.mem_cons_of_mem _ (List.mem_append_right _ h)) hlb hz
theorem xap_lt {p s : List Nat} {c : Nat} (h : ∀ b ∈ s, b < 256) : ∀ b ∈ xorl p c ++ s, b < 256 := fun b hb => (List.mem_append.1 hb).elim (xorl_lt p c b) (h b)

theorem ent10 : enters Tryd.prog 10 = true := by kernel_rfl
theorem ent12 : enters Tryd.prog 12 = true := by kernel_rfl
theorem ent13 : enters Tryd.prog 13 = true := by kernel_rfl
theorem zer22 : (Tryd.prog.info? 22).bind (·.zero) = some (.slice none 0 0) := by kernel_rfl

variable {G : Mem}

set_option maxHeartbeats 4000000 in
theorem dmac7_fn (vk vs : Value) (k s : List Nat) (hvk : Shows (DOR :: G) 1 vk k.length (k.map by8)) (hvs : Shows (DOR :: G) 1 vs s.length (s.map by8)) (hk : ∀ b ∈ k, b < 256) (hb : ∀ b ∈ s, b < 256) (hkm : k.length ≤ 1073741824) (hs : s.length ≤ 1073741760) : Fn Tryd.prog (DOR :: G) 5 #[vk, vs] (.agg (arr .u8 32 (mac k s))) := by
  obtain ⟨P, hPe⟩ : ∃ P, P = mpad k := ⟨_, rfl⟩
  have hP : P.length = 64 := by rw [hPe]; exact mpad_len k
  have hFit := dfit_fn (G := G) vk k hvk hk hkm
  rw [← hPe] at hFit
  obtain ⟨g, hg⟩ : ∃ g, g = bsum (xorl P 54 ++ s) := ⟨_, rfl⟩
  have hgl : bsl (xorl P 54 ++ s) = (List.range 32).map g := by rw [hg]; rfl
  have hmc : bsum (xorl P 92 ++ (List.range 32).map g) = mac k s := by rw [← hgl, hPe]; rfl
  have hgb : ∀ b ∈ (List.range 32).map g, b < 256 := by rw [← hgl]; exact bsl_lt _
  have hg32 : ((List.range 32).map g).length = 32 := by simp
  have hx5 := xorl_len P 54
  have hx9 := xorl_len P 92
  refine fn1 (n := 21) Tryd.func5 rfl rfl (by simp) (argE [vk, vs] 0) (argE_ok _) ?_
  refine e_seq ?_
  refine e_plain ?_
  refine e_alloc 0 zer24 rfl fun r1 => ?_
  refine e_nil ?_
  refine e_seq ?_
  refine e_plain ?_
  refine e_move rfl rfl ?_
  refine e_call rfl ent10 hFit rfl rfl ?_
  refine e_alloc 1 zer35 rfl fun r2 => ?_
  refine e_storeA (i := 1) siz35 rfl rfl (arr_size _ _ _) arr_one rfl (arr_sz _ _ _ _ _) (.inl rfl) ?_
  refine e_nil ?_
  refine e_seq ?_
  refine e_plainR ⟨[], 4, []⟩ ?_
  refine e_loadA (i := 1) und35 rfl siz35 rfl rfl (arr_size _ _ _) rfl ⟨[], trivial⟩ ?_
  refine e_callN 2 (fun v => v) rfl rfl ent13 seenG (dturned_fn P 54 hP) (by decide) (by rw [List.length_map, xorl_len, hP]) rfl rfl fun v1_1 oz1_1 ho1_1 => ?_
  refine e_move rfl rfl ?_
  refine e_buildSl 3 [v1_1, vs].toArray und50 siz22 zer22 (by decide) (by decide) rfl (fill_ones [v1_1, vs] 0 _ (by intro v hv; simp only [List.mem_cons, List.not_mem_nil, or_false] at hv; rcases hv with rfl | rfl; exact (shows_one ho1_1.shows); exact (shows_one hvs)) (by simp)) rfl fun r4 => ?_
  refine e_callN 4 (fun v => v) rfl rfl ent12 (seen_app seenG (seen_app (seenM 2 rfl ⟨[], trivial⟩) (seen1 3 rfl ⟨[], trivial⟩))) (djoined2 (G := ((DOR :: G) ++ (oz1_1.toList ++ [(⟨r4, [v1_1, vs].toArray, 22⟩ : Blk)]))) r4 v1_1 vs (xorl P 54) s (Shows.mono (own_bytes ho1_1) (fun x h => (List.mem_append_right _ (List.mem_append_left _ h)))) (Shows.mono hvs (fun x h => (List.mem_append_left _ h))) (List.mem_append_right _ (List.mem_append_right _ (List.mem_singleton.2 rfl))) (by rw [xorl_len]; omega)) (by rw [List.length_append]; simp only [maxLen]; omega) (by rw [List.length_map, Nat.mul_one]) rfl rfl fun v1_2 oz1_2 ho1_2 => ?_
  refine e_callS rfl rfl ent11 (seen_app seenG (seenM 4 rfl ⟨[], trivial⟩)) (dsum7 (G := G) (X := oz1_2.toList) v1_2 (xorl P 54 ++ s) (own_bytes ho1_2) (xap_lt hb) (by rw [List.length_append, xorl_len]; omega)) rfl rfl ?_
  refine e_as (congrArg (fun f => Value.agg (arr .u8 32 f)) hg.symm) ?_
  refine e_alloc 5 zer24 rfl fun r6 => ?_
  refine e_storeA (i := 5) siz24 rfl rfl (arr_size _ _ _) arr_one rfl (arr_sz _ _ _ _ _) (.inl rfl) ?_
  refine e_nil ?_
  refine e_seq ?_
  refine e_drawR ⟨[], 4, []⟩ mixed (by kernel_rfl) ?_
  refine e_loadA (i := 1) und35 rfl siz35 rfl rfl (arr_size _ _ _) rfl ⟨[], trivial⟩ ?_
  refine e_callN 6 (fun v => v) rfl rfl ent13 seenG (dturned_fn P 92 hP) (by decide) (by rw [List.length_map, xorl_len, hP]) rfl rfl fun v1_3 oz1_3 ho1_3 => ?_
  refine e_sliceA 0 32 und24 siz5 rfl rfl rfl rfl rfl (by omega) (by omega) (by omega) rfl ?_
  refine e_buildSl 7 [v1_3, (.slice (some ⟨r6, 0, none⟩) 32 32)].toArray und50 siz22 zer22 (by decide) (by decide) rfl (fill_ones [v1_3, (.slice (some ⟨r6, 0, none⟩) 32 32)] 0 _ (by intro v hv; simp only [List.mem_cons, List.not_mem_nil, or_false] at hv; rcases hv with rfl | rfl; exact (shows_one ho1_3.shows); exact rfl) (by simp)) rfl fun r8 => ?_
  refine e_callN 8 (fun v => v) rfl rfl ent12 (seen_app seenG (seen_app (seenM 6 rfl ⟨[], trivial⟩) (seen_app (seen1 5 rfl ⟨[], trivial⟩) (seen1 7 rfl ⟨[], trivial⟩)))) (djoined2 (G := ((DOR :: G) ++ (oz1_3.toList ++ ([(⟨r6, arr .u8 32 g, 24⟩ : Blk)] ++ [(⟨r8, [v1_3, (.slice (some ⟨r6, 0, none⟩) 32 32)].toArray, 22⟩ : Blk)])))) r8 v1_3 (.slice (some ⟨r6, 0, none⟩) 32 32) (xorl P 92) ((List.range 32).map g) (Shows.mono (own_bytes ho1_3) (fun x h => (List.mem_append_right _ (List.mem_append_left _ h)))) (Shows.mono (shows32 r6 g 24) (fun x h => (List.mem_append_right _ (List.mem_append_right _ (List.mem_append_left _ h))))) (List.mem_append_right _ (List.mem_append_right _ (List.mem_append_right _ (List.mem_singleton.2 rfl)))) (by rw [xorl_len]; omega)) (by rw [List.length_append]; simp only [maxLen]; omega) (by rw [List.length_map, Nat.mul_one]) rfl rfl fun v1_4 oz1_4 ho1_4 => ?_
  refine e_callS rfl rfl ent11 (seen_app seenG (seenM 8 rfl ⟨[], trivial⟩)) (dsum7 (G := G) (X := oz1_4.toList) v1_4 (xorl P 92 ++ (List.range 32).map g) (own_bytes ho1_4) (xap_lt hgb) (by rw [List.length_append, xorl_len]; omega)) rfl rfl ?_
  refine e_as (congrArg (fun f => Value.agg (arr .u8 32 f)) hmc) ?_
  refine e_storeA (i := 0) siz24 rfl rfl (arr_size _ _ _) arr_one rfl (arr_sz _ _ _ _ _) (.inl rfl) ?_
  refine e_nil ?_
  refine e_ret ?_
  exact ⟨_, rfl, .cell (i := 0) rfl rfl und24 rfl siz24 (arr_size _ _ _)⟩

end Go.Proofs.YtpmgjnfllnokjaaDoor
