import Derived.Test.YtlaebpebgjaehaaDoorK3

/-
  Walks, written by a program of ours off the loaded functions.
-/
namespace Go.Proofs.YtlaebpebgjaehaaDoor
open Go Go.RowKit


theorem ent27 : enters Tryd.prog 27 = true := by kernel_rfl
theorem ent30 : enters Tryd.prog 30 = true := by kernel_rfl
theorem ent31 : enters Tryd.prog 31 = true := by kernel_rfl
theorem siz23 : (Tryd.prog.info? 23).map (·.size) = some 8 := by kernel_rfl
theorem und23 : Tryd.prog.underlying 23 = some (.array 8 22) := by kernel_rfl
theorem zer23 : (Tryd.prog.info? 23).bind (·.zero) = some (.agg (arr .u32 8 fun _ => 0)) := by kernel_rfl

variable {G : Mem}

set_option maxHeartbeats 8000000 in
theorem squeezed_true (h : Nat → Nat) (b : List Nat) (many : Nat) (hb : ∀ x ∈ b, x < 256) (hl : b.length = 64) : Fn Tryd.prog ((⟨0, arr .u32 8 ivf, 23⟩ : Blk) :: G) 21 #[.agg (arr .u32 8 h), sv b, ii many, .bool true] (.agg (arr .u32 8 (sqz h b many true))) := by
  refine fn1 (n := 219) Tryd.func21 rfl rfl (by simp) (argE [.agg (arr .u32 8 h), sv b, ii many, .bool true] 0) (argE_ok _) ?_
  refine e_seq ?_
  refine e_plain ?_
  refine e_box 0 rfl rfl fun r1 => ?_
  refine e_box 1 rfl rfl fun r2 => ?_
  refine e_alloc 2 zer23 rfl fun r3 => ?_
  refine e_nil ?_
  refine e_seq ?_
  refine e_plain ?_
  refine e_alloc 3 zer55 rfl fun r4 => ?_
  refine e_nil ?_
  refine e_seq ?_
  refine e_seq ?_
  refine e_plain ?_
  refine e_move rfl rfl ?_
  refine e_nil ?_
  refine e_block ?_
  refine e_loopK [(2, _), (3, _), (4, _), (5, _), (8, _), (9, _)] [(0, _), (1, _), (2, _)] (fun kk E m => ∃ (i : Nat) (s : Nat → Nat), kk = 8 - i ∧ E = [(18, ii i)] ∧ m = [(3, some ⟨r4, arr .u32 16 s, 55⟩)] ∧ (i ≤ 8) ∧ (∀ t, t < 16 → s t = if t % 8 < i then w00 h t else 0)) [(18, ii 0)] [(3, some ⟨r4, arr .u32 16 (fun _ => 0), 55⟩)] (8 - 0) ⟨rfl, rfl, rfl, rfl, rfl, rfl, rfl, trivial⟩ ⟨rfl, rfl, rfl, rfl, trivial⟩ ⟨0, fun _ => 0, rfl, rfl, rfl, by omega, fun t _ => by rw [if_neg (by omega)]⟩ ?_
  rintro kk E m ⟨i, s, rfl, rfl, rfl, hf0_0, hf0_1⟩
  simp only [catE, catL]
  refine e_seq ?_
  refine e_plain ?_
  refine e_lt rfl rfl rfl ?_
  refine e_nil ?_
  refine e_seq ?_
  refine e_cond rfl ?_ ?_
  · intro hc0
    have hc0 : i < 8 := by have := of_decide_eq_true hc0; omega
    refine e_skip ?_
    refine e_seq ?_
    refine e_block ?_
    refine e_seq ?_
    refine e_plain ?_
    refine e_move rfl rfl ?_
    refine e_assign rfl rfl ?_
    refine e_nil ?_
    refine e_drawR ⟨[r4], 1, []⟩ mixed (by kernel_rfl) ?_
    refine e_move rfl rfl ?_
    refine e_quo_i (q := 4) rfl rfl rfl (by omega) (by omega) ?_
    refine e_move rfl rfl ?_
    refine e_rem_i (q := 4) rfl rfl rfl (by omega) ?_
    refine e_move rfl rfl ?_
    refine e_quo_i (q := 4) rfl rfl rfl (by omega) (by omega) ?_
    refine e_add_i (p := 2) rfl rfl rfl (by omega) ?_
    refine e_move rfl rfl ?_
    refine e_rem_i (q := 4) rfl rfl rfl (by omega) ?_
    refine e_move rfl rfl ?_
    refine e_index0 und23 siz22 rfl rfl (by omega) rfl ?_
    refine e_load1 (i := 0) und22 rfl rfl rfl (arr_get (by omega)) rfl ⟨[3], rfl, rfl, trivial⟩ ?_
    refine e_move rfl rfl ?_
    refine e_index0 und23 siz22 rfl rfl (by omega) rfl ?_
    refine e_load1g (i := 0) und22 rfl rfl rfl (arr_get (by omega)) rfl ?_
    refine e_at (4 * (i / 4)) und55 siz54 rfl rfl (by omega) (by omega) rfl ?_
    refine e_at (i) und54 siz22 rfl rfl (by omega) (by omega) rfl ?_
    refine e_storeN (i := 3) siz22 rfl rfl rfl (by omega) (.inr (by simp)) ?_
    refine e_at (4 * (2 + i / 4)) und55 siz54 rfl rfl (by omega) (by omega) rfl ?_
    refine e_at (8 + i) und54 siz22 rfl rfl (by omega) (by omega) rfl ?_
    refine e_storeN (i := 3) siz22 rfl rfl rfl (by omega) (.inr (by simp)) ?_
    refine e_nil ?_
    refine e_plain ?_
    refine e_add_i (q := 1) rfl rfl rfl (by omega) ?_
    refine e_move rfl rfl ?_
    refine e_nil ?_
    refine ⟨_, [(18, ii (i + 1))], [(3, some ⟨r4, arr .u32 16 (upd (upd s i _) (8 + i) _), 55⟩)], ?_, ⟨rfl, rfl, rfl, rfl, rfl, rfl, rfl, trivial⟩, ⟨rfl, rfl, rfl, rfl, trivial⟩, i + 1, upd (upd s i _) (8 + i) _, rfl, rfl, rfl, by omega, w00_step (by omega) hf0_1⟩
    omega
  · intro hc0
    have hc0 := of_decide_eq_false hc0
    have hz0 : i = 8 := by omega
    subst hz0
    refine e_exit ?_
    refine e_seq ?_
    refine e_plain ?_
    refine e_at (12) (j := 3) und55 siz54 rfl rfl (by omega) (by omega) rfl ?_
    refine e_at (12) (j := 0) und54 siz22 rfl rfl (by omega) (by omega) rfl ?_
    refine e_load1 (i := 3) und22 rfl rfl rfl (arr_get (by omega)) rfl ⟨[], trivial⟩ ?_
    refine e_move rfl rfl ?_
    refine e_conv_w und3 und22 rfl rfl rfl ?_
    refine e_xor_w rfl rfl rfl  ?_
    refine e_at (12) (j := 3) und55 siz54 rfl rfl (by omega) (by omega) rfl ?_
    refine e_at (12) (j := 0) und54 siz22 rfl rfl (by omega) (by omega) rfl ?_
    refine e_storeN (i := 3) siz22 rfl rfl rfl (by omega) (.inl rfl) ?_
    refine e_nil ?_
    refine e_seq ?_
    refine e_seq ?_
    refine e_plain ?_
    refine e_move rfl rfl ?_
    refine e_nil ?_
    refine e_cond rfl ?_ ?_
    · intro hc1
      refine e_plain ?_
      refine e_at (12) (j := 3) und55 siz54 rfl rfl (by omega) (by omega) rfl ?_
      refine e_at (14) (j := 2) und54 siz22 rfl rfl (by omega) (by omega) rfl ?_
      refine e_load1 (i := 3) und22 rfl rfl rfl (arr_get (by omega)) rfl ⟨[], trivial⟩ ?_
      refine e_compl_w rfl rfl ?_
      refine e_at (12) (j := 3) und55 siz54 rfl rfl (by omega) (by omega) rfl ?_
      refine e_at (14) (j := 2) und54 siz22 rfl rfl (by omega) (by omega) rfl ?_
      refine e_storeN (i := 3) siz22 rfl rfl rfl (by omega) (.inl rfl) ?_
      refine e_nil ?_
      refine e_seq ?_
      refine e_plain ?_
      refine e_func rfl rfl rfl ?_
      refine e_assign rfl rfl ?_
      refine e_nil ?_
      refine e_seq ?_
      refine e_seq ?_
      refine e_plain ?_
      refine e_move rfl rfl ?_
      refine e_nil ?_
      refine e_block ?_
      refine e_loopK [(2, _), (3, _), (4, _), (5, _), (8, _), (9, _), (11, _), (18, _)] [(0, _), (1, _), (2, _)] (fun kk E m => ∃ (r : Nat), kk = 10 - r ∧ E = [(57, ii r)] ∧ m = [(3, some ⟨r4, arr .u32 16 (brs b (w0 h many true) r), 55⟩)] ∧ (r ≤ 10)) [(57, ii 0)] [(3, some ⟨r4, arr .u32 16 (brs b (w0 h many true) 0), 55⟩)] (10 - 0) ⟨rfl, rfl, rfl, rfl, rfl, rfl, rfl, rfl, rfl, trivial⟩ ⟨(congrArg (fun c => some (⟨r4, c, 55⟩ : Blk)) (arr_congr (fun t ht => (w0_true hf0_1 t ht).trans (congrFun (brs_zero b (w0 h many true)) t)))), rfl, rfl, rfl, trivial⟩ ⟨0, rfl, rfl, rfl, by omega⟩ ?_
      rintro kk E m ⟨r, rfl, rfl, rfl, hf1_0⟩
      simp only [catE, catL]
      refine e_seq ?_
      refine e_plain ?_
      refine e_lt rfl rfl rfl ?_
      refine e_nil ?_
      refine e_seq ?_
      refine e_cond rfl ?_ ?_
      · intro hc2
        have hc2 : r < 10 := by have := of_decide_eq_true hc2; omega
        refine e_skip ?_
        refine e_seq ?_
        refine e_block ?_
        refine e_seq ?_
        refine e_plain ?_
        refine e_move rfl rfl ?_
        refine e_assign rfl rfl ?_
        refine e_nil ?_
        refine e_seq ?_
        refine e_plain ?_
        refine e_move rfl rfl ?_
        refine e_nil ?_
        refine e_block ?_
        refine e_loopK [(2, _), (3, _), (4, _), (5, _), (8, _), (9, _), (11, _), (12, _), (18, _), (57, _)] [(0, _), (1, _), (2, _)] (fun kk E m => ∃ (p : Nat), kk = 2 - p ∧ E = [(60, ii p)] ∧ m = [(3, some ⟨r4, arr .u32 16 (bpart b r (brs b (w0 h many true) r) p), 55⟩)] ∧ (p ≤ 2)) [(60, ii 0)] [(3, some ⟨r4, arr .u32 16 (bpart b r (brs b (w0 h many true) r) 0), 55⟩)] (2 - 0) ⟨rfl, rfl, rfl, rfl, rfl, rfl, rfl, rfl, rfl, rfl, rfl, trivial⟩ ⟨(blk_arr (bpart_zero b r (brs b (w0 h many true) r))), rfl, rfl, rfl, trivial⟩ ⟨0, rfl, rfl, rfl, by omega⟩ ?_
        rintro kk E m ⟨p, rfl, rfl, rfl, hf2_0⟩
        simp only [catE, catL]
        refine e_seq ?_
        refine e_plain ?_
        refine e_lt rfl rfl rfl ?_
        refine e_nil ?_
        refine e_seq ?_
        refine e_cond rfl ?_ ?_
        · intro hc3
          have hc3 : p < 2 := by have := of_decide_eq_true hc3; omega
          refine e_skip ?_
          refine e_seq ?_
          refine e_block ?_
          refine e_seq ?_
          refine e_plain ?_
          refine e_move rfl rfl ?_
          refine e_assign rfl rfl ?_
          refine e_nil ?_
          refine e_seq ?_
          refine e_plain ?_
          refine e_loadA (i := 3) und55 rfl siz55 rfl rfl (arr_size _ _ _) rfl ⟨[], trivial⟩ ?_
          refine e_move rfl rfl ?_
          refine e_call rfl ent30 (shp_fn p (by omega) _) rfl rfl ?_
          refine e_storeA (i := 3) siz55 rfl rfl (arr_size _ _ _) arr_one rfl (arr_sz _ _ _ _ _) (.inl rfl) ?_
          refine e_nil ?_
          refine e_seq ?_
          refine e_seq ?_
          refine e_plain ?_
          refine e_move rfl rfl ?_
          refine e_nil ?_
          refine e_block ?_
          refine e_loopK [(2, _), (3, _), (4, _), (5, _), (8, _), (9, _), (11, _), (12, _), (13, _), (18, _), (57, _), (60, _)] [(0, _), (1, _), (2, _)] (fun kk E m => ∃ (c : Nat) (s : Nat → Nat), kk = 4 - c ∧ E = [(66, ii c)] ∧ m = [(3, some ⟨r4, arr .u32 16 s, 55⟩)] ∧ (c ≤ 4) ∧ (∀ t, t < 16 → s t = if t % 4 < c then brn (xw b r p) (yw b r p) (shp p (bpart b r (brs b (w0 h many true) r) p)) t else (shp p (bpart b r (brs b (w0 h many true) r) p)) t)) [(66, ii 0)] [(3, some ⟨r4, arr .u32 16 ((shp p (bpart b r (brs b (w0 h many true) r) p))), 55⟩)] (4 - 0) ⟨rfl, rfl, rfl, rfl, rfl, rfl, rfl, rfl, rfl, rfl, rfl, rfl, rfl, trivial⟩ ⟨rfl, rfl, rfl, rfl, trivial⟩ ⟨0, (shp p (bpart b r (brs b (w0 h many true) r) p)), rfl, rfl, rfl, by omega, fun t _ => by rw [if_neg (by omega)]⟩ ?_
          rintro kk E m ⟨c, s, rfl, rfl, rfl, hf3_0, hf3_1⟩
          simp only [catE, catL]
          refine e_seq ?_
          refine e_plain ?_
          refine e_lt rfl rfl rfl ?_
          refine e_nil ?_
          refine e_seq ?_
          refine e_cond rfl ?_ ?_
          · intro hc4
            have hc4 : c < 4 := by have := of_decide_eq_true hc4; omega
            refine e_skip ?_
            refine e_seq ?_
            refine e_block ?_
            refine e_seq ?_
            refine e_plain ?_
            refine e_move rfl rfl ?_
            refine e_assign rfl rfl ?_
            refine e_nil ?_
            refine e_seq ?_
            refine e_plain ?_
            refine e_move rfl rfl ?_
            refine e_move rfl rfl ?_
            refine e_move rfl rfl ?_
            refine e_mul_i (p := 8) rfl rfl rfl (by omega) ?_
            refine e_move rfl rfl ?_
            refine e_mul_i (p := 2) rfl rfl rfl (by omega) ?_
            refine e_add_i rfl rfl rfl (by omega) ?_
            refine e_callV [⟨r2, #[sv b], 9⟩] rfl rfl ent27 ⟨⟨1, rfl⟩, trivial⟩ (word_fn r2 r (8 * p + 2 * c) b hb hl (by omega) (by omega)) rfl rfl rfl ?_
            refine e_move rfl rfl ?_
            refine e_move rfl rfl ?_
            refine e_move rfl rfl ?_
            refine e_mul_i (p := 8) rfl rfl rfl (by omega) ?_
            refine e_move rfl rfl ?_
            refine e_mul_i (p := 2) rfl rfl rfl (by omega) ?_
            refine e_add_i rfl rfl rfl (by omega) ?_
            refine e_add_i (q := 1) rfl rfl rfl (by omega) ?_
            refine e_callV [⟨r2, #[sv b], 9⟩] rfl rfl ent27 ⟨⟨1, rfl⟩, trivial⟩ (word_fn r2 r (8 * p + 2 * c + 1) b hb hl (by omega) (by omega)) rfl rfl rfl ?_
            refine e_assign rfl rfl ?_
            refine e_assign rfl rfl ?_
            refine e_nil ?_
            refine e_seq ?_
            refine e_draw mixed (by kernel_rfl) ?_
            refine e_move rfl rfl ?_
            refine e_at (0) (j := 0) und55 siz54 rfl rfl (by omega) (by omega) rfl ?_
            refine e_index0 und54 siz22 rfl rfl (by omega) rfl ?_
            refine e_load1 (i := 3) und22 rfl rfl rfl (arr_get (by omega)) rfl ⟨[], trivial⟩ ?_
            refine e_move rfl rfl ?_
            refine e_at (4) (j := 1) und55 siz54 rfl rfl (by omega) (by omega) rfl ?_
            refine e_at (4 + c) und54 siz22 rfl rfl (by omega) (by omega) rfl ?_
            refine e_load1 (i := 3) und22 rfl rfl rfl (arr_get (by omega)) rfl ⟨[], trivial⟩ ?_
            refine e_move rfl rfl ?_
            refine e_add_w rfl rfl rfl  ?_
            refine e_add_w rfl rfl rfl  ?_
            refine e_gen_w fun q1 hq1 => ?_
            refine e_at (0) (j := 0) und55 siz54 rfl rfl (by omega) (by omega) rfl ?_
            refine e_index0 und54 siz22 rfl rfl (by omega) rfl ?_
            refine e_storeN (i := 3) siz22 rfl rfl rfl (by omega) (.inl rfl) ?_
            refine e_nil ?_
            refine e_seq ?_
            refine e_draw mixed (by kernel_rfl) ?_
            refine e_move rfl rfl ?_
            refine e_move rfl rfl ?_
            refine e_at (12) (j := 3) und55 siz54 rfl rfl (by omega) (by omega) rfl ?_
            refine e_at (12 + c) und54 siz22 rfl rfl (by omega) (by omega) rfl ?_
            refine e_load1 (i := 3) und22 rfl rfl rfl (arr_get (by omega)) rfl ⟨[], trivial⟩ ?_
            refine e_move rfl rfl ?_
            refine e_at (0) (j := 0) und55 siz54 rfl rfl (by omega) (by omega) rfl ?_
            refine e_index0 und54 siz22 rfl rfl (by omega) rfl ?_
            refine e_load1 (i := 3) und22 rfl rfl rfl (arr_get (by omega)) rfl ⟨[], trivial⟩ ?_
            refine e_xor_w rfl rfl rfl  ?_
            refine e_call rfl ent31 (left_fn _ _ (by decide)) rfl rfl ?_
            refine e_gen_w fun q2 hq2 => ?_
            refine e_at (12) (j := 3) und55 siz54 rfl rfl (by omega) (by omega) rfl ?_
            refine e_at (12 + c) und54 siz22 rfl rfl (by omega) (by omega) rfl ?_
            refine e_storeN (i := 3) siz22 rfl rfl rfl (by omega) (.inl rfl) ?_
            refine e_nil ?_
            refine e_seq ?_
            refine e_draw mixed (by kernel_rfl) ?_
            refine e_move rfl rfl ?_
            refine e_at (8) (j := 2) und55 siz54 rfl rfl (by omega) (by omega) rfl ?_
            refine e_at (8 + c) und54 siz22 rfl rfl (by omega) (by omega) rfl ?_
            refine e_load1 (i := 3) und22 rfl rfl rfl (arr_get (by omega)) rfl ⟨[], trivial⟩ ?_
            refine e_move rfl rfl ?_
            refine e_at (12) (j := 3) und55 siz54 rfl rfl (by omega) (by omega) rfl ?_
            refine e_at (12 + c) und54 siz22 rfl rfl (by omega) (by omega) rfl ?_
            refine e_load1 (i := 3) und22 rfl rfl rfl (arr_get (by omega)) rfl ⟨[], trivial⟩ ?_
            refine e_add_w rfl rfl rfl  ?_
            refine e_gen_w fun q3 hq3 => ?_
            refine e_at (8) (j := 2) und55 siz54 rfl rfl (by omega) (by omega) rfl ?_
            refine e_at (8 + c) und54 siz22 rfl rfl (by omega) (by omega) rfl ?_
            refine e_storeN (i := 3) siz22 rfl rfl rfl (by omega) (.inl rfl) ?_
            refine e_nil ?_
            refine e_seq ?_
            refine e_draw mixed (by kernel_rfl) ?_
            refine e_move rfl rfl ?_
            refine e_move rfl rfl ?_
            refine e_at (4) (j := 1) und55 siz54 rfl rfl (by omega) (by omega) rfl ?_
            refine e_at (4 + c) und54 siz22 rfl rfl (by omega) (by omega) rfl ?_
            refine e_load1 (i := 3) und22 rfl rfl rfl (arr_get (by omega)) rfl ⟨[], trivial⟩ ?_
            refine e_move rfl rfl ?_
            refine e_at (8) (j := 2) und55 siz54 rfl rfl (by omega) (by omega) rfl ?_
            refine e_at (8 + c) und54 siz22 rfl rfl (by omega) (by omega) rfl ?_
            refine e_load1 (i := 3) und22 rfl rfl rfl (arr_get (by omega)) rfl ⟨[], trivial⟩ ?_
            refine e_xor_w rfl rfl rfl  ?_
            refine e_call rfl ent31 (left_fn _ _ (by decide)) rfl rfl ?_
            refine e_gen_w fun q4 hq4 => ?_
            refine e_at (4) (j := 1) und55 siz54 rfl rfl (by omega) (by omega) rfl ?_
            refine e_at (4 + c) und54 siz22 rfl rfl (by omega) (by omega) rfl ?_
            refine e_storeN (i := 3) siz22 rfl rfl rfl (by omega) (.inl rfl) ?_
            refine e_nil ?_
            refine e_seq ?_
            refine e_draw mixed (by kernel_rfl) ?_
            refine e_move rfl rfl ?_
            refine e_at (0) (j := 0) und55 siz54 rfl rfl (by omega) (by omega) rfl ?_
            refine e_index0 und54 siz22 rfl rfl (by omega) rfl ?_
            refine e_load1 (i := 3) und22 rfl rfl rfl (arr_get (by omega)) rfl ⟨[], trivial⟩ ?_
            refine e_move rfl rfl ?_
            refine e_at (4) (j := 1) und55 siz54 rfl rfl (by omega) (by omega) rfl ?_
            refine e_at (4 + c) und54 siz22 rfl rfl (by omega) (by omega) rfl ?_
            refine e_load1 (i := 3) und22 rfl rfl rfl (arr_get (by omega)) rfl ⟨[], trivial⟩ ?_
            refine e_move rfl rfl ?_
            refine e_add_w rfl rfl rfl  ?_
            refine e_add_w rfl rfl rfl  ?_
            refine e_gen_w fun q5 hq5 => ?_
            refine e_at (0) (j := 0) und55 siz54 rfl rfl (by omega) (by omega) rfl ?_
            refine e_index0 und54 siz22 rfl rfl (by omega) rfl ?_
            refine e_storeN (i := 3) siz22 rfl rfl rfl (by omega) (.inl rfl) ?_
            refine e_nil ?_
            refine e_seq ?_
            refine e_draw mixed (by kernel_rfl) ?_
            refine e_move rfl rfl ?_
            refine e_move rfl rfl ?_
            refine e_at (12) (j := 3) und55 siz54 rfl rfl (by omega) (by omega) rfl ?_
            refine e_at (12 + c) und54 siz22 rfl rfl (by omega) (by omega) rfl ?_
            refine e_load1 (i := 3) und22 rfl rfl rfl (arr_get (by omega)) rfl ⟨[], trivial⟩ ?_
            refine e_move rfl rfl ?_
            refine e_at (0) (j := 0) und55 siz54 rfl rfl (by omega) (by omega) rfl ?_
            refine e_index0 und54 siz22 rfl rfl (by omega) rfl ?_
            refine e_load1 (i := 3) und22 rfl rfl rfl (arr_get (by omega)) rfl ⟨[], trivial⟩ ?_
            refine e_xor_w rfl rfl rfl  ?_
            refine e_call rfl ent31 (left_fn _ _ (by decide)) rfl rfl ?_
            refine e_gen_w fun q6 hq6 => ?_
            refine e_at (12) (j := 3) und55 siz54 rfl rfl (by omega) (by omega) rfl ?_
            refine e_at (12 + c) und54 siz22 rfl rfl (by omega) (by omega) rfl ?_
            refine e_storeN (i := 3) siz22 rfl rfl rfl (by omega) (.inl rfl) ?_
            refine e_nil ?_
            refine e_seq ?_
            refine e_draw mixed (by kernel_rfl) ?_
            refine e_move rfl rfl ?_
            refine e_at (8) (j := 2) und55 siz54 rfl rfl (by omega) (by omega) rfl ?_
            refine e_at (8 + c) und54 siz22 rfl rfl (by omega) (by omega) rfl ?_
            refine e_load1 (i := 3) und22 rfl rfl rfl (arr_get (by omega)) rfl ⟨[], trivial⟩ ?_
            refine e_move rfl rfl ?_
            refine e_at (12) (j := 3) und55 siz54 rfl rfl (by omega) (by omega) rfl ?_
            refine e_at (12 + c) und54 siz22 rfl rfl (by omega) (by omega) rfl ?_
            refine e_load1 (i := 3) und22 rfl rfl rfl (arr_get (by omega)) rfl ⟨[], trivial⟩ ?_
            refine e_add_w rfl rfl rfl  ?_
            refine e_gen_w fun q7 hq7 => ?_
            refine e_at (8) (j := 2) und55 siz54 rfl rfl (by omega) (by omega) rfl ?_
            refine e_at (8 + c) und54 siz22 rfl rfl (by omega) (by omega) rfl ?_
            refine e_storeN (i := 3) siz22 rfl rfl rfl (by omega) (.inl rfl) ?_
            refine e_nil ?_
            refine e_draw mixed (by kernel_rfl) ?_
            refine e_move rfl rfl ?_
            refine e_move rfl rfl ?_
            refine e_at (4) (j := 1) und55 siz54 rfl rfl (by omega) (by omega) rfl ?_
            refine e_at (4 + c) und54 siz22 rfl rfl (by omega) (by omega) rfl ?_
            refine e_load1 (i := 3) und22 rfl rfl rfl (arr_get (by omega)) rfl ⟨[], trivial⟩ ?_
            refine e_move rfl rfl ?_
            refine e_at (8) (j := 2) und55 siz54 rfl rfl (by omega) (by omega) rfl ?_
            refine e_at (8 + c) und54 siz22 rfl rfl (by omega) (by omega) rfl ?_
            refine e_load1 (i := 3) und22 rfl rfl rfl (arr_get (by omega)) rfl ⟨[], trivial⟩ ?_
            refine e_xor_w rfl rfl rfl  ?_
            refine e_call rfl ent31 (left_fn _ _ (by decide)) rfl rfl ?_
            refine e_gen_w fun q8 hq8 => ?_
            refine e_at (4) (j := 1) und55 siz54 rfl rfl (by omega) (by omega) rfl ?_
            refine e_at (4 + c) und54 siz22 rfl rfl (by omega) (by omega) rfl ?_
            refine e_storeN (i := 3) siz22 rfl rfl rfl (by omega) (.inl rfl) ?_
            refine e_nil ?_
            refine e_plain ?_
            refine e_add_i (q := 1) rfl rfl rfl (by omega) ?_
            refine e_move rfl rfl ?_
            refine e_nil ?_
            refine ⟨_, [(66, ii (c + 1))], [(3, some ⟨r4, arr .u32 16 (upd (upd (upd (upd (upd (upd (upd (upd s c q1) (12 + c) q2) (8 + c) q3) (4 + c) q4) c q5) (12 + c) q6) (8 + c) q7) (4 + c) q8), 55⟩)], ?_, ⟨rfl, rfl, rfl, rfl, rfl, rfl, rfl, rfl, rfl, rfl, rfl, rfl, rfl, trivial⟩, ⟨rfl, rfl, rfl, rfl, trivial⟩, c + 1, upd (upd (upd (upd (upd (upd (upd (upd s c q1) (12 + c) q2) (8 + c) q3) (4 + c) q4) c q5) (12 + c) q6) (8 + c) q7) (4 + c) q8, rfl, rfl, rfl, by omega, brn_step (by omega) hf3_1 _ rfl (bst_eqs (by omega) hq1 hq2 hq3 hq4 hq5 hq6 hq7 hq8)⟩
            omega
          · intro hc4
            have hc4 := of_decide_eq_false hc4
            have hz3 : c = 4 := by omega
            refine e_exit ?_
            refine e_plain ?_
            refine e_loadA (i := 3) und55 rfl siz55 rfl rfl (arr_size _ _ _) rfl ⟨[], trivial⟩ ?_
            refine e_as (congrArg Value.agg (arr_congr (fun t ht => (hf3_1 t ht).trans (if_pos (by omega))))) ?_
            refine e_move rfl rfl ?_
            refine e_neg_z rfl rfl (by omega) (by omega) ?_
            refine e_call rfl ent30 (shn_fn p (by omega) _) rfl rfl ?_
            refine e_storeA (i := 3) siz55 rfl rfl (arr_size _ _ _) arr_one rfl (arr_sz _ _ _ _ _) (.inl rfl) ?_
            refine e_nil ?_
            refine e_plain ?_
            refine e_add_i (q := 1) rfl rfl rfl (by omega) ?_
            refine e_move rfl rfl ?_
            refine e_nil ?_
            refine ⟨_, [(60, ii (p + 1))], [(3, some ⟨r4, arr .u32 16 (bpart b r (brs b (w0 h many true) r) (p + 1)), 55⟩)], ?_, ⟨rfl, rfl, rfl, rfl, rfl, rfl, rfl, rfl, rfl, rfl, rfl, trivial⟩, ⟨(blk_arr (bpart_succ b r (brs b (w0 h many true) r) p)), rfl, rfl, rfl, trivial⟩, p + 1, rfl, rfl, rfl, by omega⟩
            omega
        · intro hc3
          have hc3 := of_decide_eq_false hc3
          have hz2 : p = 2 := by omega
          refine e_exit ?_
          refine e_plain ?_
          refine e_add_i (q := 1) rfl rfl rfl (by omega) ?_
          refine e_move rfl rfl ?_
          refine e_nil ?_
          refine ⟨_, [(57, ii (r + 1))], [(3, some ⟨r4, arr .u32 16 (brs b (w0 h many true) (r + 1)), 55⟩)], ?_, ⟨rfl, rfl, rfl, rfl, rfl, rfl, rfl, rfl, rfl, trivial⟩, ⟨(blk_arr ((congrArg (bpart b r (brs b (w0 h many true) r)) hz2).trans (brs_succ b (w0 h many true) r))), rfl, rfl, rfl, trivial⟩, r + 1, rfl, rfl, rfl, by omega⟩
          omega
      · intro hc2
        have hc2 := of_decide_eq_false hc2
        have hz1 : r = 10 := by omega
        refine e_exit ?_
        refine e_seq ?_
        refine e_seq ?_
        refine e_plain ?_
        refine e_move rfl rfl ?_
        refine e_nil ?_
        refine e_block ?_
        refine e_loopK [(2, _), (3, _), (4, _), (5, _), (8, _), (9, _), (11, _), (18, _), (57, _)] [(1, _), (2, _), (3, _)] (fun kk E m => ∃ (q : Nat) (s2 : Nat → Nat), kk = 8 - q ∧ E = [(193, ii q)] ∧ m = [(0, some ⟨r1, arr .u32 8 s2, 23⟩)] ∧ (q ≤ 8) ∧ (∀ t, t < 8 → s2 t = if t < q then sqz h b many true t else h t)) [(193, ii 0)] [(0, some ⟨r1, arr .u32 8 h, 23⟩)] (8 - 0) ⟨rfl, rfl, rfl, rfl, rfl, rfl, rfl, rfl, rfl, rfl, trivial⟩ ⟨rfl, rfl, rfl, rfl, trivial⟩ ⟨0, h, rfl, rfl, rfl, by omega, fun t _ => by rw [if_neg (by omega)]⟩ ?_
        rintro kk E m ⟨q, s2, rfl, rfl, rfl, hf4_0, hf4_1⟩
        simp only [catE, catL]
        refine e_seq ?_
        refine e_plain ?_
        refine e_lt rfl rfl rfl ?_
        refine e_nil ?_
        refine e_seq ?_
        refine e_cond rfl ?_ ?_
        · intro hc5
          have hc5 : q < 8 := by have := of_decide_eq_true hc5; omega
          refine e_skip ?_
          refine e_seq ?_
          refine e_block ?_
          refine e_seq ?_
          refine e_plain ?_
          refine e_move rfl rfl ?_
          refine e_assign rfl rfl ?_
          refine e_nil ?_
          refine e_draw mixed (by kernel_rfl) ?_
          refine e_move rfl rfl ?_
          refine e_index0 und23 siz22 rfl rfl (by omega) rfl ?_
          refine e_load1 (i := 0) und22 rfl rfl rfl (arr_get (by omega)) rfl ⟨[], trivial⟩ ?_
          refine e_move rfl rfl ?_
          refine e_quo_i (q := 4) rfl rfl rfl (by omega) (by omega) ?_
          refine e_move rfl rfl ?_
          refine e_rem_i (q := 4) rfl rfl rfl (by omega) ?_
          refine e_at (4 * (q / 4)) und55 siz54 rfl rfl (by omega) (by omega) rfl ?_
          refine e_at (q) und54 siz22 rfl rfl (by omega) (by omega) rfl ?_
          refine e_load1 (i := 3) und22 rfl rfl rfl (arr_get (by omega)) rfl ⟨[], trivial⟩ ?_
          refine e_move rfl rfl ?_
          refine e_quo_i (q := 4) rfl rfl rfl (by omega) (by omega) ?_
          refine e_add_i (p := 2) rfl rfl rfl (by omega) ?_
          refine e_move rfl rfl ?_
          refine e_rem_i (q := 4) rfl rfl rfl (by omega) ?_
          refine e_at (4 * (2 + q / 4)) und55 siz54 rfl rfl (by omega) (by omega) rfl ?_
          refine e_at (8 + q) und54 siz22 rfl rfl (by omega) (by omega) rfl ?_
          refine e_load1 (i := 3) und22 rfl rfl rfl (arr_get (by omega)) rfl ⟨[], trivial⟩ ?_
          refine e_xor_w rfl rfl rfl  ?_
          refine e_xor_w rfl rfl rfl  ?_
          refine e_index0 und23 siz22 rfl rfl (by omega) rfl ?_
          refine e_storeN (i := 0) siz22 rfl rfl rfl (by omega) (.inl rfl) ?_
          refine e_nil ?_
          refine e_plain ?_
          refine e_add_i (q := 1) rfl rfl rfl (by omega) ?_
          refine e_move rfl rfl ?_
          refine e_nil ?_
          refine ⟨_, [(193, ii (q + 1))], [(0, some ⟨r1, arr .u32 8 (upd s2 q _), 23⟩)], ?_, ⟨rfl, rfl, rfl, rfl, rfl, rfl, rfl, rfl, rfl, rfl, trivial⟩, ⟨rfl, rfl, rfl, rfl, trivial⟩, q + 1, upd s2 q _, rfl, rfl, rfl, by omega, sqz_step (by omega) (congrArg (brs b (w0 h many true)) hz1) hf4_1⟩
          omega
        · intro hc5
          have hc5 := of_decide_eq_false hc5
          have hz4 : q = 8 := by omega
          subst hz4
          refine e_exit ?_
          refine e_seq ?_
          refine e_plain ?_
          refine e_loadA (i := 0) und23 rfl siz23 rfl rfl (arr_size _ _ _) rfl ⟨[], trivial⟩ ?_
          refine e_storeA (i := 2) siz23 rfl rfl (arr_size _ _ _) arr_one rfl (arr_sz _ _ _ _ _) (.inl rfl) ?_
          refine e_nil ?_
          refine e_ret ?_
          rw [← sqz_all hf4_1]
          exact ⟨_, rfl, .cell (i := 2) rfl rfl und23 rfl siz23 (arr_size _ _ _)⟩
    · intro hc1
      cases hc1

end Go.Proofs.YtlaebpebgjaehaaDoor

/-
  Walks, written by a program of ours off the loaded functions.
-/
namespace Go.Proofs.YtlaebpebgjaehaaDoor
open Go Go.RowKit



variable {G : Mem}

set_option maxHeartbeats 8000000 in
theorem squeezed_false (h : Nat → Nat) (b : List Nat) (many : Nat) (hb : ∀ x ∈ b, x < 256) (hl : b.length = 64) : Fn Tryd.prog ((⟨0, arr .u32 8 ivf, 23⟩ : Blk) :: G) 21 #[.agg (arr .u32 8 h), sv b, ii many, .bool false] (.agg (arr .u32 8 (sqz h b many false))) := by
  refine fn1 (n := 219) Tryd.func21 rfl rfl (by simp) (argE [.agg (arr .u32 8 h), sv b, ii many, .bool false] 0) (argE_ok _) ?_
  refine e_seq ?_
  refine e_plain ?_
  refine e_box 0 rfl rfl fun r1 => ?_
  refine e_box 1 rfl rfl fun r2 => ?_
  refine e_alloc 2 zer23 rfl fun r3 => ?_
  refine e_nil ?_
  refine e_seq ?_
  refine e_plain ?_
  refine e_alloc 3 zer55 rfl fun r4 => ?_
  refine e_nil ?_
  refine e_seq ?_
  refine e_seq ?_
  refine e_plain ?_
  refine e_move rfl rfl ?_
  refine e_nil ?_
  refine e_block ?_
  refine e_loopK [(2, _), (3, _), (4, _), (5, _), (8, _), (9, _)] [(0, _), (1, _), (2, _)] (fun kk E m => ∃ (i : Nat) (s : Nat → Nat), kk = 8 - i ∧ E = [(18, ii i)] ∧ m = [(3, some ⟨r4, arr .u32 16 s, 55⟩)] ∧ (i ≤ 8) ∧ (∀ t, t < 16 → s t = if t % 8 < i then w00 h t else 0)) [(18, ii 0)] [(3, some ⟨r4, arr .u32 16 (fun _ => 0), 55⟩)] (8 - 0) ⟨rfl, rfl, rfl, rfl, rfl, rfl, rfl, trivial⟩ ⟨rfl, rfl, rfl, rfl, trivial⟩ ⟨0, fun _ => 0, rfl, rfl, rfl, by omega, fun t _ => by rw [if_neg (by omega)]⟩ ?_
  rintro kk E m ⟨i, s, rfl, rfl, rfl, hf0_0, hf0_1⟩
  simp only [catE, catL]
  refine e_seq ?_
  refine e_plain ?_
  refine e_lt rfl rfl rfl ?_
  refine e_nil ?_
  refine e_seq ?_
  refine e_cond rfl ?_ ?_
  · intro hc0
    have hc0 : i < 8 := by have := of_decide_eq_true hc0; omega
    refine e_skip ?_
    refine e_seq ?_
    refine e_block ?_
    refine e_seq ?_
    refine e_plain ?_
    refine e_move rfl rfl ?_
    refine e_assign rfl rfl ?_
    refine e_nil ?_
    refine e_drawR ⟨[r4], 1, []⟩ mixed (by kernel_rfl) ?_
    refine e_move rfl rfl ?_
    refine e_quo_i (q := 4) rfl rfl rfl (by omega) (by omega) ?_
    refine e_move rfl rfl ?_
    refine e_rem_i (q := 4) rfl rfl rfl (by omega) ?_
    refine e_move rfl rfl ?_
    refine e_quo_i (q := 4) rfl rfl rfl (by omega) (by omega) ?_
    refine e_add_i (p := 2) rfl rfl rfl (by omega) ?_
    refine e_move rfl rfl ?_
    refine e_rem_i (q := 4) rfl rfl rfl (by omega) ?_
    refine e_move rfl rfl ?_
    refine e_index0 und23 siz22 rfl rfl (by omega) rfl ?_
    refine e_load1 (i := 0) und22 rfl rfl rfl (arr_get (by omega)) rfl ⟨[3], rfl, rfl, trivial⟩ ?_
    refine e_move rfl rfl ?_
    refine e_index0 und23 siz22 rfl rfl (by omega) rfl ?_
    refine e_load1g (i := 0) und22 rfl rfl rfl (arr_get (by omega)) rfl ?_
    refine e_at (4 * (i / 4)) und55 siz54 rfl rfl (by omega) (by omega) rfl ?_
    refine e_at (i) und54 siz22 rfl rfl (by omega) (by omega) rfl ?_
    refine e_storeN (i := 3) siz22 rfl rfl rfl (by omega) (.inr (by simp)) ?_
    refine e_at (4 * (2 + i / 4)) und55 siz54 rfl rfl (by omega) (by omega) rfl ?_
    refine e_at (8 + i) und54 siz22 rfl rfl (by omega) (by omega) rfl ?_
    refine e_storeN (i := 3) siz22 rfl rfl rfl (by omega) (.inr (by simp)) ?_
    refine e_nil ?_
    refine e_plain ?_
    refine e_add_i (q := 1) rfl rfl rfl (by omega) ?_
    refine e_move rfl rfl ?_
    refine e_nil ?_
    refine ⟨_, [(18, ii (i + 1))], [(3, some ⟨r4, arr .u32 16 (upd (upd s i _) (8 + i) _), 55⟩)], ?_, ⟨rfl, rfl, rfl, rfl, rfl, rfl, rfl, trivial⟩, ⟨rfl, rfl, rfl, rfl, trivial⟩, i + 1, upd (upd s i _) (8 + i) _, rfl, rfl, rfl, by omega, w00_step (by omega) hf0_1⟩
    omega
  · intro hc0
    have hc0 := of_decide_eq_false hc0
    have hz0 : i = 8 := by omega
    subst hz0
    refine e_exit ?_
    refine e_seq ?_
    refine e_plain ?_
    refine e_at (12) (j := 3) und55 siz54 rfl rfl (by omega) (by omega) rfl ?_
    refine e_at (12) (j := 0) und54 siz22 rfl rfl (by omega) (by omega) rfl ?_
    refine e_load1 (i := 3) und22 rfl rfl rfl (arr_get (by omega)) rfl ⟨[], trivial⟩ ?_
    refine e_move rfl rfl ?_
    refine e_conv_w und3 und22 rfl rfl rfl ?_
    refine e_xor_w rfl rfl rfl  ?_
    refine e_at (12) (j := 3) und55 siz54 rfl rfl (by omega) (by omega) rfl ?_
    refine e_at (12) (j := 0) und54 siz22 rfl rfl (by omega) (by omega) rfl ?_
    refine e_storeN (i := 3) siz22 rfl rfl rfl (by omega) (.inl rfl) ?_
    refine e_nil ?_
    refine e_seq ?_
    refine e_seq ?_
    refine e_plain ?_
    refine e_move rfl rfl ?_
    refine e_nil ?_
    refine e_cond rfl ?_ ?_
    · intro hc1
      cases hc1
    · intro hc1
      refine e_skip ?_
      refine e_seq ?_
      refine e_plain ?_
      refine e_func rfl rfl rfl ?_
      refine e_assign rfl rfl ?_
      refine e_nil ?_
      refine e_seq ?_
      refine e_seq ?_
      refine e_plain ?_
      refine e_move rfl rfl ?_
      refine e_nil ?_
      refine e_block ?_
      refine e_loopK [(2, _), (3, _), (4, _), (5, _), (8, _), (9, _), (11, _), (18, _)] [(0, _), (1, _), (2, _)] (fun kk E m => ∃ (r : Nat), kk = 10 - r ∧ E = [(57, ii r)] ∧ m = [(3, some ⟨r4, arr .u32 16 (brs b (w0 h many false) r), 55⟩)] ∧ (r ≤ 10)) [(57, ii 0)] [(3, some ⟨r4, arr .u32 16 (brs b (w0 h many false) 0), 55⟩)] (10 - 0) ⟨rfl, rfl, rfl, rfl, rfl, rfl, rfl, rfl, rfl, trivial⟩ ⟨(congrArg (fun c => some (⟨r4, c, 55⟩ : Blk)) (arr_congr (fun t ht => (w0_false hf0_1 t ht).trans (congrFun (brs_zero b (w0 h many false)) t)))), rfl, rfl, rfl, trivial⟩ ⟨0, rfl, rfl, rfl, by omega⟩ ?_
      rintro kk E m ⟨r, rfl, rfl, rfl, hf1_0⟩
      simp only [catE, catL]
      refine e_seq ?_
      refine e_plain ?_
      refine e_lt rfl rfl rfl ?_
      refine e_nil ?_
      refine e_seq ?_
      refine e_cond rfl ?_ ?_
      · intro hc2
        have hc2 : r < 10 := by have := of_decide_eq_true hc2; omega
        refine e_skip ?_
        refine e_seq ?_
        refine e_block ?_
        refine e_seq ?_
        refine e_plain ?_
        refine e_move rfl rfl ?_
        refine e_assign rfl rfl ?_
        refine e_nil ?_
        refine e_seq ?_
        refine e_plain ?_
        refine e_move rfl rfl ?_
        refine e_nil ?_
        refine e_block ?_
        refine e_loopK [(2, _), (3, _), (4, _), (5, _), (8, _), (9, _), (11, _), (12, _), (18, _), (57, _)] [(0, _), (1, _), (2, _)] (fun kk E m => ∃ (p : Nat), kk = 2 - p ∧ E = [(60, ii p)] ∧ m = [(3, some ⟨r4, arr .u32 16 (bpart b r (brs b (w0 h many false) r) p), 55⟩)] ∧ (p ≤ 2)) [(60, ii 0)] [(3, some ⟨r4, arr .u32 16 (bpart b r (brs b (w0 h many false) r) 0), 55⟩)] (2 - 0) ⟨rfl, rfl, rfl, rfl, rfl, rfl, rfl, rfl, rfl, rfl, rfl, trivial⟩ ⟨(blk_arr (bpart_zero b r (brs b (w0 h many false) r))), rfl, rfl, rfl, trivial⟩ ⟨0, rfl, rfl, rfl, by omega⟩ ?_
        rintro kk E m ⟨p, rfl, rfl, rfl, hf2_0⟩
        simp only [catE, catL]
        refine e_seq ?_
        refine e_plain ?_
        refine e_lt rfl rfl rfl ?_
        refine e_nil ?_
        refine e_seq ?_
        refine e_cond rfl ?_ ?_
        · intro hc3
          have hc3 : p < 2 := by have := of_decide_eq_true hc3; omega
          refine e_skip ?_
          refine e_seq ?_
          refine e_block ?_
          refine e_seq ?_
          refine e_plain ?_
          refine e_move rfl rfl ?_
          refine e_assign rfl rfl ?_
          refine e_nil ?_
          refine e_seq ?_
          refine e_plain ?_
          refine e_loadA (i := 3) und55 rfl siz55 rfl rfl (arr_size _ _ _) rfl ⟨[], trivial⟩ ?_
          refine e_move rfl rfl ?_
          refine e_call rfl ent30 (shp_fn p (by omega) _) rfl rfl ?_
          refine e_storeA (i := 3) siz55 rfl rfl (arr_size _ _ _) arr_one rfl (arr_sz _ _ _ _ _) (.inl rfl) ?_
          refine e_nil ?_
          refine e_seq ?_
          refine e_seq ?_
          refine e_plain ?_
          refine e_move rfl rfl ?_
          refine e_nil ?_
          refine e_block ?_
          refine e_loopK [(2, _), (3, _), (4, _), (5, _), (8, _), (9, _), (11, _), (12, _), (13, _), (18, _), (57, _), (60, _)] [(0, _), (1, _), (2, _)] (fun kk E m => ∃ (c : Nat) (s : Nat → Nat), kk = 4 - c ∧ E = [(66, ii c)] ∧ m = [(3, some ⟨r4, arr .u32 16 s, 55⟩)] ∧ (c ≤ 4) ∧ (∀ t, t < 16 → s t = if t % 4 < c then brn (xw b r p) (yw b r p) (shp p (bpart b r (brs b (w0 h many false) r) p)) t else (shp p (bpart b r (brs b (w0 h many false) r) p)) t)) [(66, ii 0)] [(3, some ⟨r4, arr .u32 16 ((shp p (bpart b r (brs b (w0 h many false) r) p))), 55⟩)] (4 - 0) ⟨rfl, rfl, rfl, rfl, rfl, rfl, rfl, rfl, rfl, rfl, rfl, rfl, rfl, trivial⟩ ⟨rfl, rfl, rfl, rfl, trivial⟩ ⟨0, (shp p (bpart b r (brs b (w0 h many false) r) p)), rfl, rfl, rfl, by omega, fun t _ => by rw [if_neg (by omega)]⟩ ?_
          rintro kk E m ⟨c, s, rfl, rfl, rfl, hf3_0, hf3_1⟩
          simp only [catE, catL]
          refine e_seq ?_
          refine e_plain ?_
          refine e_lt rfl rfl rfl ?_
          refine e_nil ?_
          refine e_seq ?_
          refine e_cond rfl ?_ ?_
          · intro hc4
            have hc4 : c < 4 := by have := of_decide_eq_true hc4; omega
            refine e_skip ?_
            refine e_seq ?_
            refine e_block ?_
            refine e_seq ?_
            refine e_plain ?_
            refine e_move rfl rfl ?_
            refine e_assign rfl rfl ?_
            refine e_nil ?_
            refine e_seq ?_
            refine e_plain ?_
            refine e_move rfl rfl ?_
            refine e_move rfl rfl ?_
            refine e_move rfl rfl ?_
            refine e_mul_i (p := 8) rfl rfl rfl (by omega) ?_
            refine e_move rfl rfl ?_
            refine e_mul_i (p := 2) rfl rfl rfl (by omega) ?_
            refine e_add_i rfl rfl rfl (by omega) ?_
            refine e_callV [⟨r2, #[sv b], 9⟩] rfl rfl ent27 ⟨⟨1, rfl⟩, trivial⟩ (word_fn r2 r (8 * p + 2 * c) b hb hl (by omega) (by omega)) rfl rfl rfl ?_
            refine e_move rfl rfl ?_
            refine e_move rfl rfl ?_
            refine e_move rfl rfl ?_
            refine e_mul_i (p := 8) rfl rfl rfl (by omega) ?_
            refine e_move rfl rfl ?_
            refine e_mul_i (p := 2) rfl rfl rfl (by omega) ?_
            refine e_add_i rfl rfl rfl (by omega) ?_
            refine e_add_i (q := 1) rfl rfl rfl (by omega) ?_
            refine e_callV [⟨r2, #[sv b], 9⟩] rfl rfl ent27 ⟨⟨1, rfl⟩, trivial⟩ (word_fn r2 r (8 * p + 2 * c + 1) b hb hl (by omega) (by omega)) rfl rfl rfl ?_
            refine e_assign rfl rfl ?_
            refine e_assign rfl rfl ?_
            refine e_nil ?_
            refine e_seq ?_
            refine e_draw mixed (by kernel_rfl) ?_
            refine e_move rfl rfl ?_
            refine e_at (0) (j := 0) und55 siz54 rfl rfl (by omega) (by omega) rfl ?_
            refine e_index0 und54 siz22 rfl rfl (by omega) rfl ?_
            refine e_load1 (i := 3) und22 rfl rfl rfl (arr_get (by omega)) rfl ⟨[], trivial⟩ ?_
            refine e_move rfl rfl ?_
            refine e_at (4) (j := 1) und55 siz54 rfl rfl (by omega) (by omega) rfl ?_
            refine e_at (4 + c) und54 siz22 rfl rfl (by omega) (by omega) rfl ?_
            refine e_load1 (i := 3) und22 rfl rfl rfl (arr_get (by omega)) rfl ⟨[], trivial⟩ ?_
            refine e_move rfl rfl ?_
            refine e_add_w rfl rfl rfl  ?_
            refine e_add_w rfl rfl rfl  ?_
            refine e_gen_w fun q1 hq1 => ?_
            refine e_at (0) (j := 0) und55 siz54 rfl rfl (by omega) (by omega) rfl ?_
            refine e_index0 und54 siz22 rfl rfl (by omega) rfl ?_
            refine e_storeN (i := 3) siz22 rfl rfl rfl (by omega) (.inl rfl) ?_
            refine e_nil ?_
            refine e_seq ?_
            refine e_draw mixed (by kernel_rfl) ?_
            refine e_move rfl rfl ?_
            refine e_move rfl rfl ?_
            refine e_at (12) (j := 3) und55 siz54 rfl rfl (by omega) (by omega) rfl ?_
            refine e_at (12 + c) und54 siz22 rfl rfl (by omega) (by omega) rfl ?_
            refine e_load1 (i := 3) und22 rfl rfl rfl (arr_get (by omega)) rfl ⟨[], trivial⟩ ?_
            refine e_move rfl rfl ?_
            refine e_at (0) (j := 0) und55 siz54 rfl rfl (by omega) (by omega) rfl ?_
            refine e_index0 und54 siz22 rfl rfl (by omega) rfl ?_
            refine e_load1 (i := 3) und22 rfl rfl rfl (arr_get (by omega)) rfl ⟨[], trivial⟩ ?_
            refine e_xor_w rfl rfl rfl  ?_
            refine e_call rfl ent31 (left_fn _ _ (by decide)) rfl rfl ?_
            refine e_gen_w fun q2 hq2 => ?_
            refine e_at (12) (j := 3) und55 siz54 rfl rfl (by omega) (by omega) rfl ?_
            refine e_at (12 + c) und54 siz22 rfl rfl (by omega) (by omega) rfl ?_
            refine e_storeN (i := 3) siz22 rfl rfl rfl (by omega) (.inl rfl) ?_
            refine e_nil ?_
            refine e_seq ?_
            refine e_draw mixed (by kernel_rfl) ?_
            refine e_move rfl rfl ?_
            refine e_at (8) (j := 2) und55 siz54 rfl rfl (by omega) (by omega) rfl ?_
            refine e_at (8 + c) und54 siz22 rfl rfl (by omega) (by omega) rfl ?_
            refine e_load1 (i := 3) und22 rfl rfl rfl (arr_get (by omega)) rfl ⟨[], trivial⟩ ?_
            refine e_move rfl rfl ?_
            refine e_at (12) (j := 3) und55 siz54 rfl rfl (by omega) (by omega) rfl ?_
            refine e_at (12 + c) und54 siz22 rfl rfl (by omega) (by omega) rfl ?_
            refine e_load1 (i := 3) und22 rfl rfl rfl (arr_get (by omega)) rfl ⟨[], trivial⟩ ?_
            refine e_add_w rfl rfl rfl  ?_
            refine e_gen_w fun q3 hq3 => ?_
            refine e_at (8) (j := 2) und55 siz54 rfl rfl (by omega) (by omega) rfl ?_
            refine e_at (8 + c) und54 siz22 rfl rfl (by omega) (by omega) rfl ?_
            refine e_storeN (i := 3) siz22 rfl rfl rfl (by omega) (.inl rfl) ?_
            refine e_nil ?_
            refine e_seq ?_
            refine e_draw mixed (by kernel_rfl) ?_
            refine e_move rfl rfl ?_
            refine e_move rfl rfl ?_
            refine e_at (4) (j := 1) und55 siz54 rfl rfl (by omega) (by omega) rfl ?_
            refine e_at (4 + c) und54 siz22 rfl rfl (by omega) (by omega) rfl ?_
            refine e_load1 (i := 3) und22 rfl rfl rfl (arr_get (by omega)) rfl ⟨[], trivial⟩ ?_
            refine e_move rfl rfl ?_
            refine e_at (8) (j := 2) und55 siz54 rfl rfl (by omega) (by omega) rfl ?_
            refine e_at (8 + c) und54 siz22 rfl rfl (by omega) (by omega) rfl ?_
            refine e_load1 (i := 3) und22 rfl rfl rfl (arr_get (by omega)) rfl ⟨[], trivial⟩ ?_
            refine e_xor_w rfl rfl rfl  ?_
            refine e_call rfl ent31 (left_fn _ _ (by decide)) rfl rfl ?_
            refine e_gen_w fun q4 hq4 => ?_
            refine e_at (4) (j := 1) und55 siz54 rfl rfl (by omega) (by omega) rfl ?_
            refine e_at (4 + c) und54 siz22 rfl rfl (by omega) (by omega) rfl ?_
            refine e_storeN (i := 3) siz22 rfl rfl rfl (by omega) (.inl rfl) ?_
            refine e_nil ?_
            refine e_seq ?_
            refine e_draw mixed (by kernel_rfl) ?_
            refine e_move rfl rfl ?_
            refine e_at (0) (j := 0) und55 siz54 rfl rfl (by omega) (by omega) rfl ?_
            refine e_index0 und54 siz22 rfl rfl (by omega) rfl ?_
            refine e_load1 (i := 3) und22 rfl rfl rfl (arr_get (by omega)) rfl ⟨[], trivial⟩ ?_
            refine e_move rfl rfl ?_
            refine e_at (4) (j := 1) und55 siz54 rfl rfl (by omega) (by omega) rfl ?_
            refine e_at (4 + c) und54 siz22 rfl rfl (by omega) (by omega) rfl ?_
            refine e_load1 (i := 3) und22 rfl rfl rfl (arr_get (by omega)) rfl ⟨[], trivial⟩ ?_
            refine e_move rfl rfl ?_
            refine e_add_w rfl rfl rfl  ?_
            refine e_add_w rfl rfl rfl  ?_
            refine e_gen_w fun q5 hq5 => ?_
            refine e_at (0) (j := 0) und55 siz54 rfl rfl (by omega) (by omega) rfl ?_
            refine e_index0 und54 siz22 rfl rfl (by omega) rfl ?_
            refine e_storeN (i := 3) siz22 rfl rfl rfl (by omega) (.inl rfl) ?_
            refine e_nil ?_
            refine e_seq ?_
            refine e_draw mixed (by kernel_rfl) ?_
            refine e_move rfl rfl ?_
            refine e_move rfl rfl ?_
            refine e_at (12) (j := 3) und55 siz54 rfl rfl (by omega) (by omega) rfl ?_
            refine e_at (12 + c) und54 siz22 rfl rfl (by omega) (by omega) rfl ?_
            refine e_load1 (i := 3) und22 rfl rfl rfl (arr_get (by omega)) rfl ⟨[], trivial⟩ ?_
            refine e_move rfl rfl ?_
            refine e_at (0) (j := 0) und55 siz54 rfl rfl (by omega) (by omega) rfl ?_
            refine e_index0 und54 siz22 rfl rfl (by omega) rfl ?_
            refine e_load1 (i := 3) und22 rfl rfl rfl (arr_get (by omega)) rfl ⟨[], trivial⟩ ?_
            refine e_xor_w rfl rfl rfl  ?_
            refine e_call rfl ent31 (left_fn _ _ (by decide)) rfl rfl ?_
            refine e_gen_w fun q6 hq6 => ?_
            refine e_at (12) (j := 3) und55 siz54 rfl rfl (by omega) (by omega) rfl ?_
            refine e_at (12 + c) und54 siz22 rfl rfl (by omega) (by omega) rfl ?_
            refine e_storeN (i := 3) siz22 rfl rfl rfl (by omega) (.inl rfl) ?_
            refine e_nil ?_
            refine e_seq ?_
            refine e_draw mixed (by kernel_rfl) ?_
            refine e_move rfl rfl ?_
            refine e_at (8) (j := 2) und55 siz54 rfl rfl (by omega) (by omega) rfl ?_
            refine e_at (8 + c) und54 siz22 rfl rfl (by omega) (by omega) rfl ?_
            refine e_load1 (i := 3) und22 rfl rfl rfl (arr_get (by omega)) rfl ⟨[], trivial⟩ ?_
            refine e_move rfl rfl ?_
            refine e_at (12) (j := 3) und55 siz54 rfl rfl (by omega) (by omega) rfl ?_
            refine e_at (12 + c) und54 siz22 rfl rfl (by omega) (by omega) rfl ?_
            refine e_load1 (i := 3) und22 rfl rfl rfl (arr_get (by omega)) rfl ⟨[], trivial⟩ ?_
            refine e_add_w rfl rfl rfl  ?_
            refine e_gen_w fun q7 hq7 => ?_
            refine e_at (8) (j := 2) und55 siz54 rfl rfl (by omega) (by omega) rfl ?_
            refine e_at (8 + c) und54 siz22 rfl rfl (by omega) (by omega) rfl ?_
            refine e_storeN (i := 3) siz22 rfl rfl rfl (by omega) (.inl rfl) ?_
            refine e_nil ?_
            refine e_draw mixed (by kernel_rfl) ?_
            refine e_move rfl rfl ?_
            refine e_move rfl rfl ?_
            refine e_at (4) (j := 1) und55 siz54 rfl rfl (by omega) (by omega) rfl ?_
            refine e_at (4 + c) und54 siz22 rfl rfl (by omega) (by omega) rfl ?_
            refine e_load1 (i := 3) und22 rfl rfl rfl (arr_get (by omega)) rfl ⟨[], trivial⟩ ?_
            refine e_move rfl rfl ?_
            refine e_at (8) (j := 2) und55 siz54 rfl rfl (by omega) (by omega) rfl ?_
            refine e_at (8 + c) und54 siz22 rfl rfl (by omega) (by omega) rfl ?_
            refine e_load1 (i := 3) und22 rfl rfl rfl (arr_get (by omega)) rfl ⟨[], trivial⟩ ?_
            refine e_xor_w rfl rfl rfl  ?_
            refine e_call rfl ent31 (left_fn _ _ (by decide)) rfl rfl ?_
            refine e_gen_w fun q8 hq8 => ?_
            refine e_at (4) (j := 1) und55 siz54 rfl rfl (by omega) (by omega) rfl ?_
            refine e_at (4 + c) und54 siz22 rfl rfl (by omega) (by omega) rfl ?_
            refine e_storeN (i := 3) siz22 rfl rfl rfl (by omega) (.inl rfl) ?_
            refine e_nil ?_
            refine e_plain ?_
            refine e_add_i (q := 1) rfl rfl rfl (by omega) ?_
            refine e_move rfl rfl ?_
            refine e_nil ?_
            refine ⟨_, [(66, ii (c + 1))], [(3, some ⟨r4, arr .u32 16 (upd (upd (upd (upd (upd (upd (upd (upd s c q1) (12 + c) q2) (8 + c) q3) (4 + c) q4) c q5) (12 + c) q6) (8 + c) q7) (4 + c) q8), 55⟩)], ?_, ⟨rfl, rfl, rfl, rfl, rfl, rfl, rfl, rfl, rfl, rfl, rfl, rfl, rfl, trivial⟩, ⟨rfl, rfl, rfl, rfl, trivial⟩, c + 1, upd (upd (upd (upd (upd (upd (upd (upd s c q1) (12 + c) q2) (8 + c) q3) (4 + c) q4) c q5) (12 + c) q6) (8 + c) q7) (4 + c) q8, rfl, rfl, rfl, by omega, brn_step (by omega) hf3_1 _ rfl (bst_eqs (by omega) hq1 hq2 hq3 hq4 hq5 hq6 hq7 hq8)⟩
            omega
          · intro hc4
            have hc4 := of_decide_eq_false hc4
            have hz3 : c = 4 := by omega
            refine e_exit ?_
            refine e_plain ?_
            refine e_loadA (i := 3) und55 rfl siz55 rfl rfl (arr_size _ _ _) rfl ⟨[], trivial⟩ ?_
            refine e_as (congrArg Value.agg (arr_congr (fun t ht => (hf3_1 t ht).trans (if_pos (by omega))))) ?_
            refine e_move rfl rfl ?_
            refine e_neg_z rfl rfl (by omega) (by omega) ?_
            refine e_call rfl ent30 (shn_fn p (by omega) _) rfl rfl ?_
            refine e_storeA (i := 3) siz55 rfl rfl (arr_size _ _ _) arr_one rfl (arr_sz _ _ _ _ _) (.inl rfl) ?_
            refine e_nil ?_
            refine e_plain ?_
            refine e_add_i (q := 1) rfl rfl rfl (by omega) ?_
            refine e_move rfl rfl ?_
            refine e_nil ?_
            refine ⟨_, [(60, ii (p + 1))], [(3, some ⟨r4, arr .u32 16 (bpart b r (brs b (w0 h many false) r) (p + 1)), 55⟩)], ?_, ⟨rfl, rfl, rfl, rfl, rfl, rfl, rfl, rfl, rfl, rfl, rfl, trivial⟩, ⟨(blk_arr (bpart_succ b r (brs b (w0 h many false) r) p)), rfl, rfl, rfl, trivial⟩, p + 1, rfl, rfl, rfl, by omega⟩
            omega
        · intro hc3
          have hc3 := of_decide_eq_false hc3
          have hz2 : p = 2 := by omega
          refine e_exit ?_
          refine e_plain ?_
          refine e_add_i (q := 1) rfl rfl rfl (by omega) ?_
          refine e_move rfl rfl ?_
          refine e_nil ?_
          refine ⟨_, [(57, ii (r + 1))], [(3, some ⟨r4, arr .u32 16 (brs b (w0 h many false) (r + 1)), 55⟩)], ?_, ⟨rfl, rfl, rfl, rfl, rfl, rfl, rfl, rfl, rfl, trivial⟩, ⟨(blk_arr ((congrArg (bpart b r (brs b (w0 h many false) r)) hz2).trans (brs_succ b (w0 h many false) r))), rfl, rfl, rfl, trivial⟩, r + 1, rfl, rfl, rfl, by omega⟩
          omega
      · intro hc2
        have hc2 := of_decide_eq_false hc2
        have hz1 : r = 10 := by omega
        refine e_exit ?_
        refine e_seq ?_
        refine e_seq ?_
        refine e_plain ?_
        refine e_move rfl rfl ?_
        refine e_nil ?_
        refine e_block ?_
        refine e_loopK [(2, _), (3, _), (4, _), (5, _), (8, _), (9, _), (11, _), (18, _), (57, _)] [(1, _), (2, _), (3, _)] (fun kk E m => ∃ (q : Nat) (s2 : Nat → Nat), kk = 8 - q ∧ E = [(193, ii q)] ∧ m = [(0, some ⟨r1, arr .u32 8 s2, 23⟩)] ∧ (q ≤ 8) ∧ (∀ t, t < 8 → s2 t = if t < q then sqz h b many false t else h t)) [(193, ii 0)] [(0, some ⟨r1, arr .u32 8 h, 23⟩)] (8 - 0) ⟨rfl, rfl, rfl, rfl, rfl, rfl, rfl, rfl, rfl, rfl, trivial⟩ ⟨rfl, rfl, rfl, rfl, trivial⟩ ⟨0, h, rfl, rfl, rfl, by omega, fun t _ => by rw [if_neg (by omega)]⟩ ?_
        rintro kk E m ⟨q, s2, rfl, rfl, rfl, hf4_0, hf4_1⟩
        simp only [catE, catL]
        refine e_seq ?_
        refine e_plain ?_
        refine e_lt rfl rfl rfl ?_
        refine e_nil ?_
        refine e_seq ?_
        refine e_cond rfl ?_ ?_
        · intro hc5
          have hc5 : q < 8 := by have := of_decide_eq_true hc5; omega
          refine e_skip ?_
          refine e_seq ?_
          refine e_block ?_
          refine e_seq ?_
          refine e_plain ?_
          refine e_move rfl rfl ?_
          refine e_assign rfl rfl ?_
          refine e_nil ?_
          refine e_draw mixed (by kernel_rfl) ?_
          refine e_move rfl rfl ?_
          refine e_index0 und23 siz22 rfl rfl (by omega) rfl ?_
          refine e_load1 (i := 0) und22 rfl rfl rfl (arr_get (by omega)) rfl ⟨[], trivial⟩ ?_
          refine e_move rfl rfl ?_
          refine e_quo_i (q := 4) rfl rfl rfl (by omega) (by omega) ?_
          refine e_move rfl rfl ?_
          refine e_rem_i (q := 4) rfl rfl rfl (by omega) ?_
          refine e_at (4 * (q / 4)) und55 siz54 rfl rfl (by omega) (by omega) rfl ?_
          refine e_at (q) und54 siz22 rfl rfl (by omega) (by omega) rfl ?_
          refine e_load1 (i := 3) und22 rfl rfl rfl (arr_get (by omega)) rfl ⟨[], trivial⟩ ?_
          refine e_move rfl rfl ?_
          refine e_quo_i (q := 4) rfl rfl rfl (by omega) (by omega) ?_
          refine e_add_i (p := 2) rfl rfl rfl (by omega) ?_
          refine e_move rfl rfl ?_
          refine e_rem_i (q := 4) rfl rfl rfl (by omega) ?_
          refine e_at (4 * (2 + q / 4)) und55 siz54 rfl rfl (by omega) (by omega) rfl ?_
          refine e_at (8 + q) und54 siz22 rfl rfl (by omega) (by omega) rfl ?_
          refine e_load1 (i := 3) und22 rfl rfl rfl (arr_get (by omega)) rfl ⟨[], trivial⟩ ?_
          refine e_xor_w rfl rfl rfl  ?_
          refine e_xor_w rfl rfl rfl  ?_
          refine e_index0 und23 siz22 rfl rfl (by omega) rfl ?_
          refine e_storeN (i := 0) siz22 rfl rfl rfl (by omega) (.inl rfl) ?_
          refine e_nil ?_
          refine e_plain ?_
          refine e_add_i (q := 1) rfl rfl rfl (by omega) ?_
          refine e_move rfl rfl ?_
          refine e_nil ?_
          refine ⟨_, [(193, ii (q + 1))], [(0, some ⟨r1, arr .u32 8 (upd s2 q _), 23⟩)], ?_, ⟨rfl, rfl, rfl, rfl, rfl, rfl, rfl, rfl, rfl, rfl, trivial⟩, ⟨rfl, rfl, rfl, rfl, trivial⟩, q + 1, upd s2 q _, rfl, rfl, rfl, by omega, sqz_step (by omega) (congrArg (brs b (w0 h many false)) hz1) hf4_1⟩
          omega
        · intro hc5
          have hc5 := of_decide_eq_false hc5
          have hz4 : q = 8 := by omega
          subst hz4
          refine e_exit ?_
          refine e_seq ?_
          refine e_plain ?_
          refine e_loadA (i := 0) und23 rfl siz23 rfl rfl (arr_size _ _ _) rfl ⟨[], trivial⟩ ?_
          refine e_storeA (i := 2) siz23 rfl rfl (arr_size _ _ _) arr_one rfl (arr_sz _ _ _ _ _) (.inl rfl) ?_
          refine e_nil ?_
          refine e_ret ?_
          rw [← sqz_all hf4_1]
          exact ⟨_, rfl, .cell (i := 2) rfl rfl und23 rfl siz23 (arr_size _ _ _)⟩

end Go.Proofs.YtlaebpebgjaehaaDoor

/-
  Blocks of cells of any kinds, as functions of the place; structs.
-/
namespace Go.Proofs.YtlaebpebgjaehaaDoor
open Go Go.RowKit

def arrv (n : Nat) (F : Nat → Value) : Array Value := ((List.range n).map F).toArray
def updv (F : Nat → Value) (j : Nat) (v : Value) : Nat → Value := fun i => if i = j then v else F i
/-- l cells from o on are others. -/
def putv (F : Nat → Value) (o l : Nat) (A : Nat → Value) : Nat → Value := fun i => if o ≤ i ∧ i < o + l then A (i - o) else F i
theorem arr_arrv (k : IntKind) (n : Nat) (f : Nat → Nat) : arr k n f = arrv n (fun i => .int k (f i : Int)) := rfl
theorem arrv_size (n : Nat) (F : Nat → Value) : (arrv n F).size = n := by simp [arrv]
theorem arrv_get {n j : Nat} {F : Nat → Value} (h : j < n) : (arrv n F)[j]? = some (F j) := by simp [arrv, h]
theorem arrv_nth {n j : Nat} {F : Nat → Value} (h : j < n) : (arrv n F).toList[j]? = some (F j) := by simp [arrv, h]
theorem arrv_congr {n : Nat} {F H : Nat → Value} (h : ∀ j, j < n → F j = H j) : arrv n F = arrv n H := by
  unfold arrv
  congr 1
  exact List.map_congr_left fun i hi => h i (by simpa using hi)
theorem arrv_set {n : Nat} {F : Nat → Value} (j : Nat) (v : Value) : (arrv n F).setIfInBounds j v = arrv n (updv F j v) := by
  apply Array.ext
  · simp [arrv_size]
  · intro i h1 h2
    have hi : i < n := by simpa [arrv_size] using h2
    by_cases e : j = i
    · subst e; simp [arrv, updv]
    · have e' : ¬ i = j := fun h => e h.symm
      simp [arrv, updv, e, e']
theorem arrv_part (N o l : Nat) (F : Nat → Value) (h : o + l ≤ N) : (arrv N F).extract o (o + l) = arrv l (fun t => F (o + t)) := by
  apply Array.ext
  · simp [arrv]; omega
  · intro i h1 h2
    simp [arrv]
theorem arrv_put (N o l : Nat) (F A : Nat → Value) (h : o + l ≤ N) : ((arrv N F).toList.take o ++ (arrv l A).toList ++ (arrv N F).toList.drop (o + l)).toArray = arrv N (putv F o l A) := by
  apply Array.ext
  · simp [arrv]; omega
  · intro j h1 h2
    have hj : j < N := by simpa [arrv] using h2
    simp only [List.getElem_toArray]
    by_cases ha : j < o
    · rw [List.getElem_append_left (by simp [arrv]; omega), List.getElem_append_left (by simp [arrv]; omega)]
      simp [arrv, putv, show ¬ (o ≤ j ∧ j < o + l) by omega]
    · by_cases hb : j < o + l
      · rw [List.getElem_append_left (by simp [arrv]; omega), List.getElem_append_right (by simp [arrv]; omega)]
        have h5 : min o N = o := by omega
        simp [arrv, putv, h5, show o ≤ j ∧ j < o + l by omega]
      · rw [List.getElem_append_right (by simp [arrv]; omega)]
        have h5 : min o N = o := by omega
        simp [arrv, putv, h5, show ¬ (o ≤ j ∧ j < o + l) by omega]
        congr 1
        omega
theorem setRow_blk {w : World} {b : Nat} {c' : Array Value} {t : TypeId} : w.setRow b c' = setBlk w ⟨b, c', t⟩ := rfl

section
variable {P : Program} {G : Mem} {R : Reg} {ops : Array Oper} {K : Act → Mem → Prop} {rest : List Oper} {a : Act} {m : Mem} {d : Option Tmp} {ty : TypeId} {pos : String} {aft : Array Edge}
variable {T T' : TypeId} {x y : Operand}
/-- A store into a part of a block. -/
theorem st_storeP {b o i l N : Nat} {F A : Nat → Value} {t : TypeId} (hs : (P.info? T).map (·.size) = some l) (hx : a.eval x = .pointer (some ⟨b, o, none⟩)) (hy : a.eval y = .agg (arrv l A)) (hA : ∀ j, j < l → (A j).oneCell' = true)
    (hm : m[i]? = some ⟨b, arrv N F, t⟩) (hX : R.X = [] ∨ b ∈ R.X) (ho : o + l ≤ N) (h : opsM P G R ops K rest (a.put d undef) (m.set i ⟨b, arrv N (putv F o l A), t⟩)) : opsM P G R ops K (⟨d, .store T x y, ty, pos, aft, none⟩ :: rest) a m :=
  store_at hm hX (arrv N (putv F o l A)) (by simp [arrv_size]) (fun w hin => by
    have hst := run_storeCells_in (P := P) b o t (arrv l A).toList 0 (arrv N F) w hin (by simp [arrv_size]; omega) (fun v hv => by
      simp [arrv] at hv
      obtain ⟨j, hj, rfl⟩ := hv
      exact hA j hj)
    have hl : (arrv l A).toList.length = l := by simp [arrv]
    rw [hl, Nat.add_zero, arrv_put N o l F A ho, setRow_blk (t := t)] at hst
    cases hi : P.info? T with
    | none => simp [hi] at hs
    | some j =>
      have hsz : j.size = l := by simpa [hi] using hs
      simp only [execOp, Instr.storeAt, hx, hy, Instr.sureAddr, storeVar, sizeOf, typeInfo]
      simp [hi, hsz, Value.cells, arrv_size, hst]) h
end
section
variable {P : Program} {G : Mem} {R : Reg} {ops : Array Oper} {n : Nat} {K : Env → Mm → Prop} {rest : List Oper} {E : Env} {M : Mm} {d : Nat} {ty : TypeId} {pos : String} {aft : Array Edge}
variable {T T' : TypeId} {x y : Operand}
theorem e_ldP {b i o l N : Nat} {F : Nat → Value} {t : TypeId} {td : TypeDesc} (hT : P.underlying T = some td) (hn : rowLike td = true) (hs : (P.info? T).map (·.size) = some l)
    (hx : rd E x = some (.pointer (some ⟨b, o, none⟩))) (hm : lkM M i = some ⟨b, arrv N F, t⟩) (ho : o + l ≤ N) (hd : Nat.blt d n = true) (hX : ∃ js, okX M i js R.X) (h : OpsE P G R ops n K rest ((d, .agg (arrv l (fun t => F (o + t)))) :: E) M) :
    OpsE P G R ops n K (⟨some d, .load T x, ty, pos, aft, none⟩ :: rest) E M :=
  fun _ _ ha hM => by
    obtain ⟨j, hj⟩ := hM.at hm
    obtain ⟨js, hjs⟩ := hX
    exact st_loadS hT hn hs (ha.rd hx) hj (okX_not hM hm hjs) (by rw [arrv_size]; exact ho) (by rw [arrv_part N o l F ho]; exact h _ _ (ha.put hd _) hM)
theorem e_st1 {b o i N : Nat} {F : Nat → Value} {v : Value} {t : TypeId} (hs : (P.info? T).map (·.size) = some 1) (hx : rd E x = some (.pointer (some ⟨b, o, none⟩))) (hy : rd E y = some v) (hv : v.oneCell' = true)
    (hm : lkM M i = some ⟨b, arrv N F, t⟩) (ho : o < N) (hX : R.X = [] ∨ b ∈ R.X) (h : OpsE P G R ops n K rest E ((i, some ⟨b, arrv N (updv F o v), t⟩) :: M)) : OpsE P G R ops n K (⟨none, .store T x y, ty, pos, aft, none⟩ :: rest) E M :=
  fun _ _ ha hM => by
    obtain ⟨j, hj⟩ := hM.at hm
    exact st_store1 hs (ha.rd hx) (ha.rd hy) hv hj hX (by rw [arrv_size]; exact ho) (by rw [arrv_set]; exact h _ _ ha (hM.store hm hj _))
theorem e_stP {b o i l N : Nat} {F A : Nat → Value} {t : TypeId} (hs : (P.info? T).map (·.size) = some l) (hx : rd E x = some (.pointer (some ⟨b, o, none⟩))) (hy : rd E y = some (.agg (arrv l A))) (hA : ∀ j, j < l → (A j).oneCell' = true)
    (hm : lkM M i = some ⟨b, arrv N F, t⟩) (ho : o + l ≤ N) (hX : R.X = [] ∨ b ∈ R.X) (h : OpsE P G R ops n K rest E ((i, some ⟨b, arrv N (putv F o l A), t⟩) :: M)) : OpsE P G R ops n K (⟨none, .store T x y, ty, pos, aft, none⟩ :: rest) E M :=
  fun _ _ ha hM => by
    obtain ⟨j, hj⟩ := hM.at hm
    exact st_storeP hs (ha.rd hx) (ha.rd hy) hA hj hX ho (h _ _ ha (hM.store hm hj _))
/-- A block is as another one, as is known. -/
theorem e_blk {l : List Oper} {s b : Nat} {c c' : Array Value} {t : TypeId} (hc : c = c') (h : OpsE P G R ops n K l E ((s, some ⟨b, c', t⟩) :: M)) : OpsE P G R ops n K l E ((s, some ⟨b, c, t⟩) :: M) := by rw [hc]; exact h
end
end Go.Proofs.YtlaebpebgjaehaaDoor

/-
  Structs as rows of parts: each part a row of cells; loads, stores and equality by parts.
-/
namespace Go.Proofs.YtlaebpebgjaehaaDoor
open Go Go.RowKit

abbrev Part := Nat × (Nat → Value)
def catF : List Part → Nat → Value
  | [], _ => .bool false
  | p :: ps, i => if i < p.1 then p.2 i else catF ps (i - p.1)
def catAt : List Part → Nat → Option (Nat × Part)
  | [], _ => none
  | p :: _, 0 => some (0, p)
  | p :: ps, k + 1 => match catAt ps k with
    | none => none
    | some q => some (p.1 + q.1, q.2)
def catSet : List Part → Nat → (Nat → Value) → List Part
  | [], _, _ => []
  | p :: ps, 0, F => (p.1, F) :: ps
  | p :: ps, k + 1, F => p :: catSet ps k F
def catOk : List Part → Prop
  | [] => True
  | p :: ps => (∀ i, (p.2 i).oneCell' = true) ∧ catOk ps
abbrev pI (k : IntKind) (l : Nat) (f : Nat → Nat) : Part := (l, fun i => .int k (f i : Int))
abbrev pV (v : Value) : Part := (1, fun _ => v)
/-- A struct's cells. -/
abbrev cells (N : Nat) (ps : List Part) : Array Value := arrv N (catF ps)

theorem cat_part : ∀ {ps : List Part} {k o l : Nat} {F : Nat → Value}, catAt ps k = some (o, l, F) → ∀ t, t < l → catF ps (o + t) = F t
  | [], _, _, _, _, h, _, _ => by simp [catAt] at h
  | p :: ps, 0, o, l, F, h, t, ht => by
    simp only [catAt, Option.some.injEq, Prod.mk.injEq] at h
    obtain ⟨rfl, rfl⟩ := h
    simp [catF, ht]
  | p :: ps, k + 1, o, l, F, h, t, ht => by
    simp only [catAt] at h
    cases hq : catAt ps k with
    | none => simp [hq] at h
    | some q =>
      obtain ⟨o', l', F'⟩ := q
      simp only [hq, Option.some.injEq, Prod.mk.injEq] at h
      obtain ⟨rfl, rfl, rfl⟩ := h
      have := cat_part hq t ht
      simp only [catF]
      rw [if_neg (by omega), show p.1 + o' + t - p.1 = o' + t by omega, this]
theorem cat_put : ∀ {ps : List Part} {k o l : Nat} {F : Nat → Value} (A : Nat → Value), catAt ps k = some (o, l, F) → ∀ i, putv (catF ps) o l A i = catF (catSet ps k A) i
  | [], _, _, _, _, _, h, _ => by simp [catAt] at h
  | p :: ps, 0, o, l, F, A, h, i => by
    simp only [catAt, Option.some.injEq, Prod.mk.injEq] at h
    obtain ⟨rfl, rfl⟩ := h
    simp only [putv, catF, catSet]
    by_cases hi : i < l
    · rw [if_pos (by omega), if_pos hi, Nat.sub_zero]
    · rw [if_neg (by omega), if_neg hi, if_neg hi]
  | p :: ps, k + 1, o, l, F, A, h, i => by
    simp only [catAt] at h
    cases hq : catAt ps k with
    | none => simp [hq] at h
    | some q =>
      obtain ⟨o', l', F'⟩ := q
      simp only [hq, Option.some.injEq, Prod.mk.injEq] at h
      obtain ⟨rfl, rfl, rfl⟩ := h
      have := cat_put A hq (i - p.1)
      simp only [catF, catSet]
      rw [← this]
      simp only [putv]
      by_cases hi : i < p.1
      · rw [if_neg (by omega), if_pos hi, if_pos hi]
      · rw [if_neg hi, if_neg hi]
        by_cases h2 : o' ≤ i - p.1 ∧ i - p.1 < o' + l'
        · rw [if_pos (by omega), if_pos h2]; congr 1; omega
        · rw [if_neg (by omega), if_neg h2]
theorem putv_one (F : Nat → Value) (o : Nat) (v : Value) : putv F o 1 (fun _ => v) = updv F o v := by
  funext i
  unfold putv updv
  by_cases h : i = o
  · subst h; rw [if_pos (by omega), if_pos rfl]
  · rw [if_neg (by omega), if_neg h]
theorem cat_upd {ps : List Part} {k o l : Nat} {F : Nat → Value} {j : Nat} (v : Value) (h : catAt ps k = some (o, l, F)) (hj : j < l) (i : Nat) : updv (catF ps) (o + j) v i = catF (catSet ps k (updv F j v)) i := by
  rw [← cat_put _ h i]
  unfold updv putv
  by_cases h1 : i = o + j
  · subst h1
    rw [if_pos rfl, if_pos (by omega)]
    show v = if o + j - o = j then v else F (o + j - o)
    rw [if_pos (by omega)]
  · rw [if_neg h1]
    by_cases h2 : o ≤ i ∧ i < o + l
    · rw [if_pos h2]
      show catF ps i = if i - o = j then v else F (i - o)
      rw [if_neg (by omega)]
      have := cat_part h (i - o) (by omega)
      rw [← this]; congr 1; omega
    · rw [if_neg h2]
theorem upd_int (k : IntKind) (f : Nat → Nat) (j v : Nat) : updv (fun i => .int k (f i : Int)) j (.int k (v : Int)) = fun i => .int k (upd f j v i : Int) := by
  funext i
  unfold updv upd
  split <;> rfl
theorem cat_one : ∀ {ps : List Part}, catOk ps → ∀ i, (catF ps i).oneCell' = true
  | [], _, _ => rfl
  | p :: ps, h, i => by
    simp only [catF]
    split
    · exact h.1 _
    · exact cat_one h.2 _
theorem cells_one {N : Nat} {ps : List Part} (h : catOk ps) : ∀ v ∈ cells N ps, v.oneCell' = true := fun v hv => by
  simp [cells, arrv] at hv
  obtain ⟨i, _, rfl⟩ := hv
  exact cat_one h i
theorem cells_sz {N : Nat} {ps qs : List Part} : (cells N ps).size = (cells N qs).size := by rw [arrv_size, arrv_size]

section
variable {P : Program} {G : Mem} {R : Reg} {ops : Array Oper} {n : Nat} {K : Env → Mm → Prop} {rest : List Oper} {E : Env} {M : Mm} {d : Nat} {ty : TypeId} {pos : String} {aft : Array Edge}
variable {T T' : TypeId} {x y : Operand}
/-- A part that is a row of numbers. -/
theorem e_ldC (k : Nat) {b i o l N : Nat} {kd : IntKind} {f : Nat → Nat} {ps : List Part} {t : TypeId} {td : TypeDesc} (hT : P.underlying T = some td) (hn : rowLike td = true) (hs : (P.info? T).map (·.size) = some l)
    (hx : rd E x = some (.pointer (some ⟨b, o, none⟩))) (hm : lkM M i = some ⟨b, cells N ps, t⟩) (hk : catAt ps k = some (o, pI kd l f)) (ho : o + l ≤ N) (hd : Nat.blt d n = true) (hX : ∃ js, okX M i js R.X) (h : OpsE P G R ops n K rest ((d, .agg (arr kd l f)) :: E) M) :
    OpsE P G R ops n K (⟨some d, .load T x, ty, pos, aft, none⟩ :: rest) E M :=
  e_ldP hT hn hs hx hm ho hd hX (by rw [arrv_congr (fun t ht => cat_part hk t ht), ← arr_arrv]; exact h)
/-- One number of a part. -/
theorem e_ldI (k j : Nat) {b i o o' l N : Nat} {kd : IntKind} {f : Nat → Nat} {ps : List Part} {t : TypeId} {td : TypeDesc} (hT : P.underlying T = some td) (hn : rowLike td = false)
    (hx : rd E x = some (.pointer (some ⟨b, o', none⟩))) (hm : lkM M i = some ⟨b, cells N ps, t⟩) (hk : catAt ps k = some (o, pI kd l f)) (ho : o' = o + j) (hj : j < l) (hN : o' < N) (hd : Nat.blt d n = true) (hX : ∃ js, okX M i js R.X) (h : OpsE P G R ops n K rest ((d, .int kd (f j : Int)) :: E) M) :
    OpsE P G R ops n K (⟨some d, .load T x, ty, pos, aft, none⟩ :: rest) E M :=
  e_load1 (v := .int kd (f j : Int)) hT hn hx hm (by rw [cells, arrv_get hN, ho, cat_part hk j hj]) hd hX h
/-- A part of one cell. -/
theorem e_ldV1 (k : Nat) {b i o N : Nat} {v : Value} {ps : List Part} {t : TypeId} {td : TypeDesc} (hT : P.underlying T = some td) (hn : rowLike td = false)
    (hx : rd E x = some (.pointer (some ⟨b, o, none⟩))) (hm : lkM M i = some ⟨b, cells N ps, t⟩) (hk : catAt ps k = some (o, pV v)) (hN : o < N) (hd : Nat.blt d n = true) (hX : ∃ js, okX M i js R.X) (h : OpsE P G R ops n K rest ((d, v) :: E) M) :
    OpsE P G R ops n K (⟨some d, .load T x, ty, pos, aft, none⟩ :: rest) E M :=
  e_load1 (v := v) hT hn hx hm (by have := cat_part hk 0 (by decide); rw [Nat.add_zero] at this; rw [cells, arrv_get hN, this]) hd hX h
theorem e_stC (k : Nat) {b o i l N : Nat} {kd : IntKind} {f : Nat → Nat} {F : Nat → Value} {ps : List Part} {t : TypeId} (hs : (P.info? T).map (·.size) = some l) (hx : rd E x = some (.pointer (some ⟨b, o, none⟩))) (hy : rd E y = some (.agg (arr kd l f)))
    (hm : lkM M i = some ⟨b, cells N ps, t⟩) (hk : catAt ps k = some (o, l, F)) (ho : o + l ≤ N) (hX : R.X = [] ∨ b ∈ R.X) (h : OpsE P G R ops n K rest E ((i, some ⟨b, cells N (catSet ps k (fun i => .int kd (f i : Int))), t⟩) :: M)) : OpsE P G R ops n K (⟨none, .store T x y, ty, pos, aft, none⟩ :: rest) E M :=
  e_stP (A := fun i => .int kd (f i : Int)) hs hx hy (fun _ _ => rfl) hm ho hX (by rw [funext (cat_put _ hk)]; exact h)
theorem e_stI (k j : Nat) {b o o' i l v N : Nat} {kd : IntKind} {f : Nat → Nat} {ps : List Part} {t : TypeId} (hs : (P.info? T).map (·.size) = some 1) (hx : rd E x = some (.pointer (some ⟨b, o', none⟩))) (hy : rd E y = some (.int kd (v : Int)))
    (hm : lkM M i = some ⟨b, cells N ps, t⟩) (hk : catAt ps k = some (o, pI kd l f)) (ho : o' = o + j) (hj : j < l) (hN : o' < N) (hX : R.X = [] ∨ b ∈ R.X) (h : OpsE P G R ops n K rest E ((i, some ⟨b, cells N (catSet ps k (fun i => .int kd (upd f j v i : Int))), t⟩) :: M)) : OpsE P G R ops n K (⟨none, .store T x y, ty, pos, aft, none⟩ :: rest) E M :=
  e_st1 hs hx hy rfl hm hN hX (by rw [ho, funext (cat_upd _ hk hj), upd_int]; exact h)
theorem e_stV (k : Nat) {b o i N : Nat} {v : Value} {F : Nat → Value} {ps : List Part} {t : TypeId} (hs : (P.info? T).map (·.size) = some 1) (hx : rd E x = some (.pointer (some ⟨b, o, none⟩))) (hy : rd E y = some v) (hv : v.oneCell' = true)
    (hm : lkM M i = some ⟨b, cells N ps, t⟩) (hk : catAt ps k = some (o, 1, F)) (hN : o < N) (hX : R.X = [] ∨ b ∈ R.X) (h : OpsE P G R ops n K rest E ((i, some ⟨b, cells N (catSet ps k (fun _ => v)), t⟩) :: M)) : OpsE P G R ops n K (⟨none, .store T x y, ty, pos, aft, none⟩ :: rest) E M :=
  e_st1 hs hx hy hv hm hN hX (by rw [← putv_one, funext (cat_put _ hk)]; exact h)
/-- A field of a struct that is a value: a row of numbers. -/
theorem st_fieldC {d : Option Tmp} {a : Act} {m : Mem} {K : Act → Mem → Prop} {f k o l N : Nat} {kd : IntKind} {g : Nat → Nat} {ps : List Part} {fs : Array Field} {fd : Field} {td : TypeDesc} (hT : P.underlying T = some (.struct fs)) (hf : fs[f]? = some fd) (he : P.underlying fd.type = some td) (hn : rowLike td = true) (hs : (P.info? fd.type).map (·.size) = some l)
    (hx : a.eval x = .agg (cells N ps)) (hk : catAt ps k = some (o, pI kd l g)) (ho : fd.offset = o) (hN : o + l ≤ N) (h : opsM P G R ops K rest (a.put d (.agg (arr kd l g))) m) : opsM P G R ops K (⟨d, .field T x f, ty, pos, aft, none⟩ :: rest) a m :=
  st_quiet (v := .agg (arr kd l g)) rfl rfl (fun w => by
    cases hi : P.info? fd.type with
    | none => simp [hi] at hs
    | some i =>
      have hsz : i.size = l := by simpa [hi] using hs
      have he2 : (cells N ps).extract o (o + l) = arr kd l g := by rw [cells, arrv_part N o l _ hN, arrv_congr (fun t ht => cat_part hk t ht), ← arr_arrv]
      have hp : (part fd.type (cells N ps) o).run P w = .ok (.agg (arr kd l g)) w := by
        unfold part
        simp only [Sem.run_bind, run_isAgg he, Result.andThen_ok, hn, if_true, sizeOf, typeInfo]
        simp [hi, hsz, he2]
      simp only [execOp, Instr.field, hx, underlying, program]
      simp [Sem.run, hT, hf, ho, asAgg]
      simp [hp]) h
theorem e_fieldC (k : Nat) {f o l N : Nat} {kd : IntKind} {g : Nat → Nat} {ps : List Part} {fs : Array Field} {fd : Field} {td : TypeDesc} (hT : P.underlying T = some (.struct fs)) (hf : fs[f]? = some fd) (he : P.underlying fd.type = some td) (hn : rowLike td = true) (hs : (P.info? fd.type).map (·.size) = some l)
    (hx : rd E x = some (.agg (cells N ps))) (hk : catAt ps k = some (o, pI kd l g)) (ho : fd.offset = o) (hN : o + l ≤ N) (hd : Nat.blt d n = true) (h : OpsE P G R ops n K rest ((d, .agg (arr kd l g)) :: E) M) : OpsE P G R ops n K (⟨some d, .field T x f, ty, pos, aft, none⟩ :: rest) E M :=
  fun _ _ ha hM => st_fieldC hT hf he hn hs (ha.rd hx) hk ho hN (h _ _ (ha.put hd _) hM)
end
section
variable {P : Program} {G : Mem} {R : Reg} {ops : Array Oper} {n : Nat} {K : Env → Mm → Prop} {rest : List Oper} {E : Env} {M : Mm} {d : Nat} {ty : TypeId} {pos : String} {aft : Array Edge}
/-- What hangs on an operation that was left out is left out. -/
theorem e_no2 {op : Op} {g s : Nat} {want : Bool} (hg : (ops[g]?).bind (·.dst) = some s) (hb : lk E s = some undef) (hd : Nat.blt d n = true) (h : OpsE P G R ops n K rest ((d, undef) :: E) M) :
    OpsE P G R ops n K (⟨some d, op, ty, pos, aft, some (g, want)⟩ :: rest) E M := fun a m ha hM => .inl ⟨by
      have hy : Go.yielded ops a.tmps g = none := by
        unfold Go.yielded
        rw [hg]
        simp [ha.slots _ _ hb, undef]
      simp [Region.wanted, hy], h _ _ (ha.put hd _) hM⟩
end
end Go.Proofs.YtlaebpebgjaehaaDoor

/-
  Bytes of a string copied into a part of a struct; a struct against itself.
-/
namespace Go.Proofs.YtlaebpebgjaehaaDoor
open Go Go.RowKit

theorem cat_putp {ps : List Part} {k o l kk : Nat} {F : Nat → Value} (A : Nat → Value) (h : catAt ps k = some (o, l, F)) (hk : kk ≤ l) (i : Nat) : putv (catF ps) o kk A i = catF (catSet ps k (putv F 0 kk A)) i := by
  rw [← cat_put _ h i]
  unfold putv
  by_cases h1 : o ≤ i ∧ i < o + kk
  · rw [if_pos h1, if_pos (by omega)]
    show A (i - o) = if 0 ≤ i - o ∧ i - o < 0 + kk then A (i - o - 0) else F (i - o)
    rw [if_pos (by omega), Nat.sub_zero]
  · rw [if_neg h1]
    by_cases h2 : o ≤ i ∧ i < o + l
    · rw [if_pos h2]
      show catF ps i = if 0 ≤ i - o ∧ i - o < 0 + kk then A (i - o - 0) else F (i - o)
      rw [if_neg (by omega)]
      have := cat_part h (i - o) (by omega)
      rw [← this]; congr 1; omega
    · rw [if_neg h2]
theorem putv_bytes (f : Nat → Nat) (kk : Nat) (l : List Nat) : putv (fun i => .int .u8 (f i : Int)) 0 kk (fun j => by8 (l.getD j 0)) = fun i => .int .u8 ((if i < kk then l.getD i 0 else f i : Nat) : Int) := by
  funext i
  unfold putv
  by_cases h : i < kk
  · rw [if_pos (by omega), if_pos h, Nat.sub_zero]
  · rw [if_neg (by omega), if_neg h]
theorem take_arrv (l : List Nat) (k : Nat) (h : k ≤ l.length) : (l.take k).map by8 = (arrv k (fun j => by8 (l.getD j 0))).toList := by
  apply List.ext_getElem
  · simp [arrv]; omega
  · intro j h1 h2
    have hj : j < l.length := by
      have h3 := h1
      rw [List.length_map, List.length_take] at h3
      omega
    simp [arrv, List.getD, hj]
section
variable {P : Program} {G : Mem} {R : Reg} {ops : Array Oper} {K : Act → Mem → Prop} {rest : List Oper} {a : Act} {m : Mem} {d : Option Tmp} {ty : TypeId} {pos : String} {aft : Array Edge}
variable {T T' : TypeId} {x y : Operand}
theorem st_copyV {e : TypeId} {b o N dl cap i : Nat} {F : Nat → Value} {t : TypeId} {l : List Nat} (hT : P.underlying T = some (.slice e)) (hs : (P.info? e).map (·.size) = some 1) (hx : a.eval x = .slice (some ⟨b, o, none⟩) dl cap) (hy : a.eval y = sv l) (hl : ∀ n ∈ l, n < 256)
    (hm : m[i]? = some ⟨b, arrv N F, t⟩) (ho : o + dl ≤ N)
    (h : ∀ lr, List.Perm m (⟨b, arrv N F, t⟩ :: lr) → opsM P G R ops K rest (a.put d (ii (min l.length dl))) (⟨b, arrv N (putv F o (min l.length dl) (fun j => by8 (l.getD j 0))), t⟩ :: lr)) : opsM P G R ops K (⟨d, .call ⟨.builtin .copy, #[x, y], #[T, T']⟩, ty, pos, aft, none⟩ :: rest) a m := by
  have hmem : (⟨b, arrv N F, t⟩ : Blk) ∈ m := mem_of_get hm
  obtain ⟨l1, l2, hml⟩ := List.append_of_mem hmem
  have hp : List.Perm m (⟨b, arrv N F, t⟩ :: (l1 ++ l2)) := by rw [hml]; exact List.perm_middle
  obtain ⟨c', hc'⟩ : ∃ c', c' = arrv N (putv F o (min l.length dl) (fun j => by8 (l.getD j 0))) := ⟨_, rfl⟩
  refine .inr ⟨rfl, ?_⟩
  show coreM _ _ _ _ _ _ _ 5
  refine ⟨[⟨b, arrv N F, t⟩], l1 ++ l2, fun v r1 nw => v = ii (min l.length dl) ∧ r1 = [⟨b, c', t⟩] ∧ nw = [], by simpa using hp, ⟨_, _, _, ⟨rfl, rfl, rfl⟩, by simp, by simp⟩, ?_, ?_, ?_⟩
  · rintro v r1 nw ⟨_, rfl, _⟩; rfl
  · intro w _ hw _
    have hin := hw _ hmem
    refine .inl ⟨_, _, _, w.setRow b c', ?_, ⟨rfl, rfl, rfl⟩, post_row hin (by rw [hc', arrv_size, arrv_size])⟩
    cases hi : P.info? e with
    | none => simp [hi] at hs
    | some k =>
      have hsz : k.size = 1 := by simpa [hi] using hs
      have hf : (Builtin.firstCells 1 (min l.length dl) (sv l)).run P w = .ok ((l.take (min l.length dl)).map by8).toArray w := by
        simp only [Builtin.firstCells]
        rw [bstr_cut]
        simp only [Sem.run_pure, List.drop_zero, Nat.sub_zero]
        congr 1
        unfold bstr
        apply Array.ext'
        simp only [Array.toList_map, List.map_map]
        exact List.map_congr_left fun n hn => by
          have := hl n (List.mem_of_mem_take hn)
          simp
          omega
      have hst := run_storeCells_in (P := P) b o t ((l.take (min l.length dl)).map by8) 0 (arrv N F) w hin (by simp [arrv_size]; omega) (fun v hv => by
        obtain ⟨n, _, rfl⟩ := List.mem_map.1 hv; rfl)
      have hlen : ((l.take (min l.length dl)).map by8).length = min l.length dl := by simp
      rw [hlen, Nat.add_zero, take_arrv l _ (by omega), arrv_put N o _ F _ (by omega), ← hc', ← take_arrv l _ (by omega)] at hst
      generalize (l.take (min l.length dl)).map by8 = vs at hf hst
      have hmin : Nat.min l.length dl = min l.length dl := rfl
      simp only [execOp, resolve, invoke, builtin, Sem.run_bind, Sem.run_pure, Result.andThen_ok, List.map_toArray, List.map_cons, List.map_nil, hx, hy]
      simp [Builtin.copy_, run_underlying hT, Builtin.lenOf, bstr_size, sizeOf, typeInfo, hi, hsz, hmin, hf, hst, goInt]
  · rintro v r1 nw ⟨rfl, rfl, rfl⟩ _
    rw [hc']
    simpa using h (l1 ++ l2) hp
end
section
variable {P : Program} {G : Mem} {R : Reg} {ops : Array Oper} {n : Nat} {K : Env → Mm → Prop} {rest : List Oper} {E : Env} {M : Mm} {d : Nat} {ty : TypeId} {pos : String} {aft : Array Edge}
variable {T T' : TypeId} {x y : Operand}
/-- Bytes are copied into a part that is a row of bytes. -/
theorem e_copyC (k : Nat) {e : TypeId} {b o N dl cap i L : Nat} {f : Nat → Nat} {ps : List Part} {t : TypeId} {l : List Nat} (hT : P.underlying T = some (.slice e)) (hs : (P.info? e).map (·.size) = some 1) (hx : rd E x = some (.slice (some ⟨b, o, none⟩) dl cap)) (hy : rd E y = some (sv l)) (hl : ∀ q ∈ l, q < 256)
    (hm : lkM M i = some ⟨b, cells N ps, t⟩) (hk : catAt ps k = some (o, pI .u8 L f)) (hL : dl ≤ L) (ho : o + dl ≤ N) (hd : Nat.blt d n = true)
    (h : OpsE P G R ops n K rest ((d, ii (min l.length dl)) :: E) ((i, some ⟨b, cells N (catSet ps k (fun i => .int .u8 ((if i < min l.length dl then l.getD i 0 else f i : Nat) : Int))), t⟩) :: M)) : OpsE P G R ops n K (⟨some d, .call ⟨.builtin .copy, #[x, y], #[T, T']⟩, ty, pos, aft, none⟩ :: rest) E M :=
  fun _ _ ha hM => by
    obtain ⟨kk, hkk⟩ := hM.at hm
    refine st_copyV hT hs (ha.rd hx) (ha.rd hy) hl hkk ho fun lr hp => ?_
    rw [funext (cat_putp _ hk (by omega)), putv_bytes]
    exact h _ _ (ha.put hd _) (hM.same (oz' := some _) hm (by simpa using hp) rfl)
end

/-! ### A value against itself -/
/-- == of a value with itself says true. -/
def Same (P : Program) (dp : Nat) (t : TypeId) (v : Value) : Prop := ∀ w, (Op.equalIn dp t v v).run P w = .ok true w
section
variable {P : Program}
theorem same_int {dp : Nat} {t : TypeId} {k k' : IntKind} {z : Int} (h : P.underlying t = some (.int k')) : Same P (dp + 1) t (.int k z) := fun w => by rw [run_equalIn_int w dp t k k' z z h]; simp
theorem same_bool {dp : Nat} {t : TypeId} {z : Bool} (h : P.underlying t = some .bool) : Same P (dp + 1) t (.bool z) := fun w => by rw [run_equalIn_bool' w dp t z z h]; simp
theorem same_str {dp : Nat} {t : TypeId} {z : ByteArray} (h : P.underlying t = some .string) : Same P (dp + 1) t (.string z) := fun w => by rw [run_equalIn_string w dp t z z h]; simp
theorem same_arr {dp : Nat} {t e : TypeId} {k k' : IntKind} {l : Nat} {f : Nat → Nat} (hT : P.underlying t = some (.array l e)) (he : P.underlying e = some (.int k')) (hs : (P.info? e).map (·.size) = some 1) : Same P (dp + 2) t (.agg (arr k l f)) := fun w => by
  rw [run_equalArr hT he hs w]
  congr 1
  exact allEq_iff.2 fun _ _ => rfl
/-- The part of a struct that a field shows. -/
def Shown (P : Program) (ps : List Part) (N : Nat) (f : Field) (v : Value) : Prop := ∀ w, (part f.type (cells N ps) f.offset).run P w = .ok v w
theorem shown_row {ps : List Part} {N k o l : Nat} {kd : IntKind} {g : Nat → Nat} {f : Field} {td : TypeDesc} (he : P.underlying f.type = some td) (hn : rowLike td = true) (hs : (P.info? f.type).map (·.size) = some l) (hk : catAt ps k = some (o, pI kd l g)) (ho : f.offset = o) (hN : o + l ≤ N) : Shown P ps N f (.agg (arr kd l g)) := fun w => by
  cases hi : P.info? f.type with
  | none => simp [hi] at hs
  | some i =>
    have hsz : i.size = l := by simpa [hi] using hs
    have he2 : (cells N ps).extract o (o + l) = arr kd l g := by rw [cells, arrv_part N o l _ hN, arrv_congr (fun t ht => cat_part hk t ht), ← arr_arrv]
    unfold part
    simp only [Sem.run_bind, run_isAgg he, Result.andThen_ok, hn, if_true, sizeOf, typeInfo, ho]
    simp [hi, hsz, he2]
theorem shown_one {ps : List Part} {N k o : Nat} {v : Value} {f : Field} {td : TypeDesc} (he : P.underlying f.type = some td) (hn : rowLike td = false) (hk : catAt ps k = some (o, pV v)) (ho : f.offset = o) (hN : o < N) : Shown P ps N f v := fun w => by
  have h1 := cat_part hk 0 (by decide)
  rw [Nat.add_zero] at h1
  unfold part
  simp only [Sem.run_bind, run_isAgg he, Result.andThen_ok, hn, ho, cells, arrv_get hN, h1]
  simp
theorem same_fields {dp : Nat} {ps : List Part} {N : Nat} : ∀ fs : List Field, (∀ f ∈ fs, ∃ v, Shown P ps N f v ∧ Same P dp f.type v) → ∀ w, (Op.eqFields dp (cells N ps) (cells N ps) fs).run P w = .ok true w
  | [], _, w => by simp [Op.eqFields]
  | f :: fs, h, w => by
    have ih := same_fields fs (fun g hg => h g (by simp [hg])) w
    obtain ⟨v, h1, h2⟩ := h f (by simp)
    simp only [Op.eqFields]
    split
    · simp only [Sem.run_bind, h1 w, Result.andThen_ok, h2 w]
      simpa using ih
    · exact ih
theorem same_struct {dp : Nat} {t : TypeId} {ps : List Part} {N : Nat} {fs : Array Field} (ht : P.underlying t = some (.struct fs)) (hp : P.stoodInHeld t = false) (h : ∀ f ∈ fs.toList, ∃ v, Shown P ps N f v ∧ Same P dp f.type v) : Same P (dp + 1) t (.agg (cells N ps)) := fun w => by
  have hf : P.fieldsOf t = fs := by simp [Program.fieldsOf, ht]
  rw [run_equalIn_struct w dp t _ _ (by rw [hf]; exact ht) hp, hf]
  exact same_fields fs.toList h w
end
section
variable {P : Program} {G : Mem} {R : Reg} {ops : Array Oper} {n : Nat} {K : Env → Mm → Prop} {rest : List Oper} {E : Env} {M : Mm} {d : Nat} {ty : TypeId} {pos : String} {aft : Array Edge}
variable {T T' : TypeId} {x y : Operand}
theorem e_eqSame {c : Array Value} (hs : Same P 10000 T (.agg c)) (hg : P.eqGuardType P.depth T = false) (hx : rd E x = some (.agg c)) (hy : rd E y = some (.agg c)) (hd : Nat.blt d n = true) (h : OpsE P G R ops n K rest ((d, .bool true) :: E) M) : OpsE P G R ops n K (⟨some d, .binOp .eql T x y T', ty, pos, aft, none⟩ :: rest) E M :=
  fun _ _ ha hM => st_bin (fun w => by
    rw [ha.rd hx, ha.rd hy]
    simp only [Sem.run_bind, run_eqGuard_agg w .eql T x y _ _ hg, Result.andThen_ok, run_eql_struct, hs w]) (h _ _ (ha.put hd _) hM)
end
end Go.Proofs.YtlaebpebgjaehaaDoor

/-
  A string becomes bytes of one's own.
-/
namespace Go.Proofs.YtlaebpebgjaehaaDoor
open Go Go.RowKit

theorem bytesRow_list {l : List Nat} (hl : ∀ b ∈ l, b < 256) {cap : Nat} (h : l.length ≤ cap) : (bytesRow (bstr l) cap).toList.take l.length = l.map by8 ∧ (bytesRow (bstr l) cap).size = cap := by
  have hz : (bstr l).size = l.length := by simp [bstr, ByteArray.size]
  have e : ((bstr l).data.map (fun b => Value.int .u8 b.toNat)).toList = l.map by8 := by
    unfold bstr
    simp only [Array.toList_map, List.map_map]
    exact List.map_congr_left fun n hn => by
      have := hl n hn
      simp [by8, Nat.mod_eq_of_lt this]
  constructor
  · unfold bytesRow
    rw [Array.toList_append, e, List.take_append_of_le_length (by simp), List.take_of_length_le (by simp)]
  · unfold bytesRow
    have e2 : ((bstr l).data.map (fun b => Value.int .u8 b.toNat)).size = l.length := by rw [← Array.length_toList, e, List.length_map]
    rw [Array.size_append, e2, Array.size_replicate, hz]; omega
section
variable {P : Program} {G : Mem} {R : Reg} {ops : Array Oper} {K : Act → Mem → Prop} {rest : List Oper} {a : Act} {m : Mem} {d : Option Tmp} {ty : TypeId} {pos : String} {aft : Array Edge}
variable {T T' : TypeId} {x y : Operand}
theorem st_conv_own {e : TypeId} {l : List Nat} (hv : kconv R T T' = 6) (hs : P.underlying T = some .string) (ht : P.underlying T' = some (.slice e)) (he : P.underlying e = some (.int .u8)) (hx : a.eval x = sv l) (hl : ∀ b ∈ l, b < 256) (hm : l.length ≤ maxLen)
    (h : ∀ v nw, OwnS e 1 v l.length (l.map by8) nw → FreshM m nw → opsM P G R ops K rest (a.put d v) (m ++ nw)) : opsM P G R ops K (⟨d, .convert T T' x, ty, pos, aft, none⟩ :: rest) a m := by
  have hz : (bstr l).size = l.length := by simp [bstr, ByteArray.size]
  have hc : cls R ⟨d, .convert T T' x, ty, pos, aft, none⟩ = 6 := by simp only [cls, hv]
  have run : ∀ w : World, ∃ w', (execOp a.eval ⟨d, .convert T T' x, ty, pos, aft, none⟩).run P w = .ok (.value (.slice (some ⟨w.heap.size, 0, none⟩) l.length (grownCap w l.length 0 e))) w' ∧ Post [] [] [⟨w.heap.size, bytesRow (bstr l) (grownCap w l.length 0 e), e⟩] w w' := fun w => by
    have hr := run_bytes_of_string (P := P) w T T' e (bstr l) hs ht he
    rw [hz] at hr
    have hp := post_marked w (bytesRow (bstr l) (grownCap w l.length 0 e)) e
    refine ⟨_, ?_, hp⟩
    simp only [execOp, hx]
    rw [show sv l = .string (bstr l) from rfl, Sem.run_bind, hr]
    rfl
  refine .inr ⟨rfl, ?_⟩
  rw [hc]
  refine ⟨fun w => ?_, fun v z ho hr => ?_⟩
  · obtain ⟨w', h1, h2⟩ := run w
    exact ⟨_, ⟨w.heap.size, bytesRow (bstr l) (grownCap w l.length 0 e), e⟩, w', h1, rfl, h2⟩
  · obtain ⟨w, w', e1, e2, hq⟩ := ho
    obtain ⟨w2, h1, h2⟩ := run w
    have e3 := e1.symm.trans h1
    injection e3 with e4 e5
    injection e4 with e6
    subst e5 e6
    have hge := grownCap_ge w l.length 0 e
    obtain ⟨g1, g2⟩ := bytesRow_list hl hge
    obtain ⟨q1, i1, _⟩ := hq.new z (by simp)
    obtain ⟨q2, i2, _⟩ := h2.new _ (List.mem_singleton.2 rfl)
    rw [e2] at i1
    have i3 := i1.symm.trans i2
    injection i3 with i3
    injection i3 with i4 i5
    have hzq : z = ⟨w.heap.size, bytesRow (bstr l) (grownCap w l.length 0 e), e⟩ := by
      obtain ⟨zb, zc, zt⟩ := z
      exact (Blk.mk.injEq _ _ _ _ _ _).mpr ⟨e2, i4, i5⟩
    rw [hzq] at hr ⊢
    exact h _ _ (.inr ⟨_, _, _, rfl, rfl, hge, grownCap_le_maxLen w l.length 0 e hm, by rw [g2, Nat.mul_one], by simp, by rw [Nat.mul_one]; exact g1⟩) ⟨by simp, fun x' hx' y hy => by simp at hx'; subst hx'; exact hr y hy⟩
/-- The run-time marks the place behind bytes that a text was written into. -/
theorem run_mark {w : World} {b o len cap : Nat} {c : Array Value} {t e : TypeId} (hin : In w ⟨b, c, t⟩) (ht : P.underlying T = some (.slice e)) (he : P.underlying e = some (.int .u8)) :
    ∃ w', (convert T T (.slice (some ⟨b, o, none⟩) len cap)).run P w = .ok (.slice (some ⟨b, o, none⟩) len cap) w' ∧ Post [⟨b, c, t⟩] [⟨b, c, t⟩] [] w w' := by
  obtain ⟨q, h1, h2⟩ := hin
  have hlt : b < w.heap.size := (Array.getElem?_eq_some_iff.1 h1).1
  have hsh : w.shape? b = some (t, c.size) := by unfold World.shape?; simp only [h1]
  have hoth : ∀ k, k ≠ b → (w.freeze ⟨b, c.size, none⟩ 1).heap[k]? = w.heap[k]? := fun k hk => by
    unfold World.freeze
    rw [if_neg (by decide)]
    simp only
    rw [Array.getElem?_modify, if_neg (fun e => hk e.symm)]
  have hthis : In (w.freeze ⟨b, c.size, none⟩ 1) ⟨b, c, t⟩ := by
    obtain ⟨lo, hi⟩ := q
    refine ⟨if lo == hi then (c.size, c.size + 1) else (min lo c.size, max hi (c.size + 1)), ?_, ?_⟩
    · unfold World.freeze
      rw [if_neg (by decide)]
      simp only
      rw [Array.getElem?_modify, if_pos rfl, h1]
      rfl
    · by_cases hq : lo = hi
      · subst hq; simp [Thawed]
      · have : c.size ≤ lo := h2.resolve_left hq
        have e2 : (lo == hi) = false := by simp [hq]
        rw [e2]
        exact .inr (by show c.size ≤ min lo c.size; omega)
  refine ⟨w.freeze ⟨b, c.size, none⟩ 1, ?_, ⟨⟨?_, ?_, ?_, ?_, fun k _ hk => hoth k (by simpa using hk)⟩, fun x hx => ?_, by simp [MemIn], by simp, by simp⟩⟩
  · simp [convert, run_underlying ht, run_underlying he, markStringish, hsh]
  · simp [World.freeze]
  · simp [World.freeze]
  · simp [World.freeze]
  · simp [World.freeze]
  · simp at hx; subst hx; exact hthis
theorem st_conv_mark {b o len cap : Nat} {c : Array Value} {t e : TypeId} {lr : Mem} (hv : kconv R T T = 5) (ht : P.underlying T = some (.slice e)) (he : P.underlying e = some (.int .u8)) (hx : a.eval x = .slice (some ⟨b, o, none⟩) len cap)
    (hp : List.Perm m (⟨b, c, t⟩ :: lr)) (h : opsM P G R ops K rest (a.put d (.slice (some ⟨b, o, none⟩) len cap)) (⟨b, c, t⟩ :: lr)) : opsM P G R ops K (⟨d, .convert T T x, ty, pos, aft, none⟩ :: rest) a m := by
  have hc : cls R ⟨d, .convert T T x, ty, pos, aft, none⟩ = 5 := by simp only [cls, hv]
  refine .inr ⟨rfl, ?_⟩
  rw [hc]
  refine ⟨[⟨b, c, t⟩], lr, fun v l1 nw => v = .slice (some ⟨b, o, none⟩) len cap ∧ l1 = [⟨b, c, t⟩] ∧ nw = [], by simpa using hp, ⟨_, _, _, ⟨rfl, rfl, rfl⟩, by simp, by simp⟩, ?_, ?_, ?_⟩
  · rintro v l1 nw ⟨_, rfl, _⟩; rfl
  · intro w _ hm _
    obtain ⟨w', h1, h2⟩ := run_mark (P := P) (T := T) (o := o) (len := len) (cap := cap) (hm ⟨b, c, t⟩ (hp.mem_iff.2 (by simp))) ht he
    refine .inl ⟨_, _, _, w', ?_, ⟨rfl, rfl, rfl⟩, h2⟩
    simp only [execOp, hx]
    rw [Sem.run_bind, h1]
    rfl
  · rintro v l1 nw ⟨rfl, rfl, rfl⟩ _
    simpa using h
end
section
variable {P : Program} {G : Mem} {R : Reg} {ops : Array Oper} {n : Nat} {K : Env → Mm → Prop} {rest : List Oper} {E : Env} {M : Mm} {d : Nat} {ty : TypeId} {pos : String} {aft : Array Edge}
variable {T T' : TypeId} {x y : Operand}
theorem e_conv_own (i : Nat) {e : TypeId} {l : List Nat} (hs : P.underlying T = some .string) (ht : P.underlying T' = some (.slice e)) (he : P.underlying e = some (.int .u8)) (hx : rd E x = some (sv l)) (hl : ∀ b ∈ l, b < 256) (hm : l.length ≤ maxLen) (hd : Nat.blt d n = true) (hv : kconv R T T' = 6)
    (h : ∀ v (oz : Option Blk), OwnS e 1 v l.length (l.map by8) oz.toList → OpsE P G R ops n K rest ((d, v) :: E) ((i, oz) :: M)) : OpsE P G R ops n K (⟨some d, .convert T T' x, ty, pos, aft, none⟩ :: rest) E M :=
  fun _ m ha hM => st_conv_own hv hs ht he (ha.rd hx) hl hm fun v nw ho hf => by
    obtain ⟨oz, rfl⟩ := own_opt ho
    have := hM.fresh i (l0 := []) (lr := m) (by simp) hf
    exact h v oz ho _ _ (ha.put hd _) (by simpa using this)
theorem e_conv_mark (i : Nat) {b o len cap : Nat} {c : Array Value} {t e : TypeId} (ht : P.underlying T = some (.slice e)) (he : P.underlying e = some (.int .u8)) (hx : rd E x = some (.slice (some ⟨b, o, none⟩) len cap)) (hm : lkM M i = some ⟨b, c, t⟩) (hd : Nat.blt d n = true) (hv : kconv R T T = 5)
    (h : OpsE P G R ops n K rest ((d, .slice (some ⟨b, o, none⟩) len cap) :: E) M) : OpsE P G R ops n K (⟨some d, .convert T T x, ty, pos, aft, none⟩ :: rest) E M :=
  fun _ m ha hM => by
    obtain ⟨lr, hp⟩ := hM.perm1 hm
    refine st_conv_mark hv ht he (ha.rd hx) (by simpa using hp) (h _ _ (ha.put hd _) ⟨fun j z hz => ?_, hM.apart⟩)
    have := hp.mem_iff.1 (hM.has j z hz)
    simpa using this
end
end Go.Proofs.YtlaebpebgjaehaaDoor

/-
  Bytes of a slice are copied into a block.
-/
namespace Go.Proofs.YtlaebpebgjaehaaDoor
open Go Go.RowKit

theorem arrv_shows (r n : Nat) (F : Nat → Value) (e : TypeId) : Shows [⟨r, arrv n F, e⟩] 1 (.slice (some ⟨r, 0, none⟩) n n) n (arrv n F).toList := shows_new _ _ (by rw [arrv_size, Nat.mul_one])
theorem bstr_eq {l k : List Nat} (hl : ∀ b ∈ l, b < 256) (hk : ∀ b ∈ k, b < 256) : ((bstr l).toList == (bstr k).toList) = decide (l = k) := by
  have e : ∀ r : List Nat, (bstr r).toList = r.map UInt8.ofNat := fun r => by
    rw [ByteArray.toList_eq]
    simp [bstr]
  rw [e, e]
  by_cases hlk : l = k
  · subst hlk; simp
  · rw [decide_eq_false hlk, beq_eq_false_iff_ne]
    intro hh
    apply hlk
    have back : ∀ r : List Nat, (∀ b ∈ r, b < 256) → (r.map UInt8.ofNat).map UInt8.toNat = r := fun r hr => by
      rw [List.map_map]
      conv => rhs; rw [← List.map_id r]
      exact List.map_congr_left fun b hb => by have := hr b hb; simp; omega
    rw [← back l hl, ← back k hk, hh]
theorem arr_shows (r N : Nat) (f : Nat → Nat) (t : TypeId) (o len cap : Nat) (h : o + len ≤ N) (hc : len ≤ cap) : Shows [⟨r, arr .u8 N f, t⟩] 1 (.slice (some ⟨r, o, none⟩) len cap) ((List.range len).map fun j => f (o + j)).length (((List.range len).map fun j => f (o + j)).map by8) := by
  have e : ((List.range len).map fun j => f (o + j)).length = len := by simp
  refine .inr ⟨r, o, cap, arr .u8 N f, t, by rw [e], by rw [e]; exact hc, by simp, by simp, by rw [e, arr_size]; omega, fun j u hj => ?_⟩
  rw [List.getElem?_map, List.getElem?_map] at hj
  by_cases hl : j < len
  · rw [List.getElem?_eq_getElem (by simpa using hl)] at hj
    simp at hj
    rw [arr_get (by omega), ← hj]
  · rw [List.getElem?_eq_none (by simpa using hl)] at hj
    cases hj
theorem own_setB {e : TypeId} {v : Value} {k j b : Nat} {l : List Nat} {m : Mem} (h : OwnS e 1 v k ((l.map by8).set j (by8 b)) m) : OwnS e 1 v k ((l.set j b).map by8) m := by
  rw [List.map_set]; exact h
theorem shows_one {B : Mem} {z n : Nat} {v : Value} {xs : List Value} (h : Shows B z v n xs) : v.cells = #[v] := by
  rcases h with ⟨_, _, oa, c, rfl, _⟩ | ⟨b, o, c, cs, t, rfl, _⟩ <;> rfl
theorem fill3 {Z : Array Value} (hZ : Z.size = 3) {a b c : Value} (ha : a.cells = #[a]) (hb : b.cells = #[b]) (hc : c.cells = #[c]) : Instr.fill (fun i => some (i * 1, 1)) Z [(0, a), (1, b), (2, c)] = some #[a, b, c] := by
  obtain ⟨p, q, r, rfl⟩ : ∃ p q r, Z = #[p, q, r] := by
    rcases Z with ⟨_ | ⟨p, _ | ⟨q, _ | ⟨r, _ | ⟨x, l⟩⟩⟩⟩⟩
    · simp at hZ
    · simp at hZ
    · simp at hZ
    · exact ⟨p, q, r, rfl⟩
    · simp at hZ
  simp [Instr.fill, ha, hb, hc]
section
variable {P : Program} {G : Mem} {R : Reg} {ops : Array Oper} {K : Act → Mem → Prop} {rest : List Oper} {a : Act} {m : Mem} {d : Option Tmp} {ty : TypeId} {pos : String} {aft : Array Edge}
variable {T T' : TypeId} {x y : Operand}
theorem first_shows {B : Mem} {vy : Value} {k n : Nat} {xs : List Value} (hsrc : Shows B 1 vy k xs) (hn : n ≤ k) {w : World} (hR : ∀ q ∈ B, RIn w q) : (Builtin.firstCells 1 n vy).run P w = .ok (xs.take n).toArray w ∧ (Builtin.lenOf vy).run P w = .ok k w := by
  rcases hsrc with ⟨rfl, rfl, oa, cap, rfl, _⟩ | ⟨b, o, cap, c, t, rfl, _, hb, hl, ho, hc⟩
  · have : n = 0 := by omega
    subst this
    refine ⟨?_, by simp [Builtin.lenOf]⟩
    cases oa with
    | none => simp [Builtin.firstCells]
    | some a => simp [Builtin.firstCells, loadCells, loadCellsFrom]
  · refine ⟨?_, by simp [Builtin.lenOf]⟩
    have hin := hR _ hb
    refine run_firstCells_some (P := P) w 1 n ⟨b, o, none⟩ k cap (xs.take n) (by rw [List.length_take, hl]; omega) fun j v hj => ?_
    rw [List.getElem?_take] at hj
    split at hj
    · have h1 := hc j v hj
      have hlt : o + j < c.size := (Array.getElem?_eq_some_iff.1 h1).1
      rw [add_off]
      have := hin.2 (o + j) hlt
      simp only at this
      rw [this]; exact h1
    · cases hj
theorem st_copyS {e : TypeId} {b o N dl cap i k : Nat} {F : Nat → Value} {t : TypeId} {xs : List Value} {B : Mem} {vy : Value} (hT : P.underlying T = some (.slice e)) (hs : (P.info? e).map (·.size) = some 1) (hx : a.eval x = .slice (some ⟨b, o, none⟩) dl cap) (hy : a.eval y = vy)
    (hsrc : Shows B 1 vy k xs) (hB : ∀ q ∈ B, q ∈ G ∨ q ∈ m) (h1 : ∀ u ∈ xs, u.oneCell' = true) (hm : m[i]? = some ⟨b, arrv N F, t⟩) (ho : o + dl ≤ N)
    (h : ∀ lr, List.Perm m (⟨b, arrv N F, t⟩ :: lr) → opsM P G R ops K rest (a.put d (ii (min k dl))) (⟨b, arrv N (putv F o (min k dl) (fun j => xs.getD j undef)), t⟩ :: lr)) : opsM P G R ops K (⟨d, .call ⟨.builtin .copy, #[x, y], #[T, T']⟩, ty, pos, aft, none⟩ :: rest) a m := by
  have hmem : (⟨b, arrv N F, t⟩ : Blk) ∈ m := mem_of_get hm
  obtain ⟨l1, l2, hml⟩ := List.append_of_mem hmem
  have hp : List.Perm m (⟨b, arrv N F, t⟩ :: (l1 ++ l2)) := by rw [hml]; exact List.perm_middle
  obtain ⟨c', hc'⟩ : ∃ c', c' = arrv N (putv F o (min k dl) (fun j => xs.getD j undef)) := ⟨_, rfl⟩
  have hxl : xs.length = k := by have := hsrc.len; omega
  refine .inr ⟨rfl, ?_⟩
  show coreM _ _ _ _ _ _ _ 5
  refine ⟨[⟨b, arrv N F, t⟩], l1 ++ l2, fun v r1 nw => v = ii (min k dl) ∧ r1 = [⟨b, c', t⟩] ∧ nw = [], by simpa using hp, ⟨_, _, _, ⟨rfl, rfl, rfl⟩, by simp, by simp⟩, ?_, ?_, ?_⟩
  · rintro v r1 nw ⟨_, rfl, _⟩; rfl
  · intro w hG hw _
    have hin := hw _ hmem
    refine .inl ⟨_, _, _, w.setRow b c', ?_, ⟨rfl, rfl, rfl⟩, post_row hin (by rw [hc', arrv_size, arrv_size])⟩
    obtain ⟨hf, hlo⟩ := first_shows (P := P) (n := min k dl) hsrc (by omega) (w := w) (fun q hq => by
      rcases hB q hq with h2 | h2
      · exact hG q h2
      · exact (hw q h2).read)
    have e1 : xs.take (min k dl) = (arrv (min k dl) (fun j => xs.getD j undef)).toList := by
      apply List.ext_getElem
      · simp [arrv]; omega
      · intro j h2 h3
        have hj : j < xs.length := by simp at h2; omega
        simp [arrv, List.getD_eq_getElem?_getD, List.getElem?_eq_getElem hj]
    have hst := run_storeCells_in (P := P) b o t (xs.take (min k dl)) 0 (arrv N F) w hin (by simp [arrv_size]; omega) (fun v hv => h1 v (List.mem_of_mem_take hv))
    have hc2 : ((arrv N F).toList.take (o + 0) ++ xs.take (min k dl) ++ (arrv N F).toList.drop (o + 0 + (xs.take (min k dl)).length)).toArray = c' := by
      have hl2 : (xs.take (min k dl)).length = min k dl := by rw [List.length_take]; omega
      rw [hc', hl2, e1, Nat.add_zero, arrv_put N o (min k dl) F _ (by omega)]
    rw [hc2] at hst
    generalize xs.take (min k dl) = vs at hf hst
    cases hi : P.info? e with
    | none => simp [hi] at hs
    | some q =>
      have hsz : q.size = 1 := by simpa [hi] using hs
      have hmin : Nat.min k dl = min k dl := rfl
      simp only [execOp, resolve, invoke, builtin, Sem.run_bind, Sem.run_pure, Result.andThen_ok, List.map_toArray, List.map_cons, List.map_nil, hx, hy]
      simp [Builtin.copy_, run_underlying hT, hlo, sizeOf, typeInfo, hi, hsz, hmin, hf, hst, goInt]
  · rintro v r1 nw ⟨rfl, rfl, rfl⟩ _
    rw [hc']
    simpa using h (l1 ++ l2) hp
end
section
variable {P : Program} {G : Mem} {R : Reg} {ops : Array Oper} {n : Nat} {K : Env → Mm → Prop} {rest : List Oper} {E : Env} {M : Mm} {d : Nat} {ty : TypeId} {pos : String} {aft : Array Edge}
variable {T T' : TypeId} {x y : Operand}
theorem SeenE.mem {B : Mem} (h : SeenE G R M B) {m : Mem} (hM : FitsM M m) : ∀ q ∈ B, q ∈ G ∨ q ∈ m := fun q hq => by
  rcases h q hq with h1 | ⟨i, h1, _⟩
  · exact .inl h1
  · exact .inr (hM.has i q h1)
theorem e_copyS {e : TypeId} {b o N dl cap i k : Nat} {F : Nat → Value} {t : TypeId} {xs : List Value} {B : Mem} {vy : Value} (hT : P.underlying T = some (.slice e)) (hs : (P.info? e).map (·.size) = some 1) (hsrc : Shows B 1 vy k xs) (hB : SeenE G R M B) (h1 : ∀ u ∈ xs, u.oneCell' = true)
    (hx : rd E x = some (.slice (some ⟨b, o, none⟩) dl cap)) (hy : rd E y = some vy) (hm : lkM M i = some ⟨b, arrv N F, t⟩) (ho : o + dl ≤ N) (hd : Nat.blt d n = true)
    (h : OpsE P G R ops n K rest ((d, ii (min k dl)) :: E) ((i, some ⟨b, arrv N (putv F o (min k dl) (fun j => xs.getD j undef)), t⟩) :: M)) : OpsE P G R ops n K (⟨some d, .call ⟨.builtin .copy, #[x, y], #[T, T']⟩, ty, pos, aft, none⟩ :: rest) E M :=
  fun _ _ ha hM => by
    obtain ⟨k', hk⟩ := hM.at hm
    exact st_copyS hT hs (ha.rd hx) (ha.rd hy) hsrc (hB.mem hM) h1 hk ho fun lr hp => h _ _ (ha.put hd _) (hM.same (oz' := some _) hm (by simpa using hp) rfl)
theorem seen_app {A B : Mem} (h1 : SeenE G R M A) (h2 : SeenE G R M B) : SeenE G R M (A ++ B) := fun z hz => by
  rcases List.mem_append.1 hz with h | h
  · exact h1 z h
  · exact h2 z h
theorem seen_hd {x : Blk} {G' : Mem} : SeenE (x :: G') R M [x] := fun z hz => .inl (by simp at hz; simp [hz])
theorem seen_gl {A G' : Mem} : SeenE (A ++ G') R M A := fun _ hz => .inl (List.mem_append_left _ hz)
theorem seen_nil : SeenE G R M [] := fun _ h => (by cases h)
/-- A call that reads what is seen. -/
theorem e_callS {g' : Mem} {fo : Operand} {f : FuncId} {args : Array Operand} {tys : Array TypeId} {vs cap : List Value} {v : Value} (hf : rd E fo = some (.func (.func f) #[] cap.toArray)) (hargs : rdl E args.toList = some vs) (he : enters P f = true) (hg : SeenE G R M g')
    (hF : Fn P g' f (vs ++ cap).toArray v) (hd : Nat.blt d n = true) (hR : callOk R = true) (h : OpsE P G R ops n K rest ((d, v) :: E) M) : OpsE P G R ops n K (⟨some d, .call ⟨.value fo, args, tys⟩, ty, pos, aft, none⟩ :: rest) E M :=
  fun _ _ ha hM => st_callV hR (ha.rd hf) (ha.args hargs) he (fun w hG hm => by
    have := hF w (fun z hz => (hg.seen hM).rin hG hm hz)
    simpa using this) (h _ _ (ha.put hd _) hM)
/-- A store into a slice of one's own. -/
theorem e_stOwn {i k j : Nat} {e : TypeId} {v w : Value} {xs : List Value} {oz : Option Blk} (hown : OwnS e 1 v k xs oz.toList) (hs : (P.info? T).map (·.size) = some 1) (hx : rd E x = some (slAddr v j)) (hy : rd E y = some w) (hw : w.oneCell' = true) (hi : lkM M i = oz) (hj : j < k) (hX : R.X = [])
    (h : ∀ oz' : Option Blk, OwnS e 1 v k (xs.set j w) oz'.toList → OpsE P G R ops n K rest E ((i, oz') :: M)) : OpsE P G R ops n K (⟨none, .store T x y, ty, pos, aft, none⟩ :: rest) E M :=
  fun _ m ha hM => by
    rcases hown with ⟨_, h0, _, _⟩ | ⟨r, cap, c, rfl, hl, hc, hm, hz, hxl, ht⟩
    · omega
    · have hoz : oz = some ⟨r, c, e⟩ := by
        cases oz with
        | none => simp at hl
        | some z => simp at hl; rw [hl]
      subst hoz
      obtain ⟨q, hq⟩ := hM.at hi
      have hjc : j < c.size := by omega
      have hx' : rd E x = some (.pointer (some ⟨r, j, none⟩)) := by
        rw [hx]; simp [slAddr]
      refine st_store1 hs (ha.rd hx') (ha.rd hy) hw hq (.inl hX) hjc ?_
      refine h (some ⟨r, c.setIfInBounds j w, e⟩) (.inr ⟨r, cap, _, rfl, rfl, hc, hm, by simpa using hz, by simpa using hxl, ?_⟩) _ _ ha (hM.store hi hq _)
      rw [Array.toList_setIfInBounds, List.take_set, ht]
theorem e_neStr {l k : List Nat} (hx : rd E x = some (sv l)) (hy : rd E y = some (sv k)) (hd : Nat.blt d n = true) (hl : ∀ b ∈ l, b < 256) (hk : ∀ b ∈ k, b < 256) (h : OpsE P G R ops n K rest ((d, .bool (decide (l ≠ k))) :: E) M) :
    OpsE P G R ops n K (⟨some d, .binOp .neq T x y T', ty, pos, aft, none⟩ :: rest) E M := fun _ _ ha hM => st_bin (fun w => by
      have e1 := bstr_eq hl hk
      rw [ha.rd hx, ha.rd hy]
      have e2 : ((bstr l).toList != (bstr k).toList) = decide (l ≠ k) := by
        rw [bne, e1]
        by_cases h : l = k <;> simp [h]
      simp only [eqGuard, binOp, Op.stringOp]
      rw [← e2]
      rfl) (h _ _ (ha.put hd _) hM)
/-- The same, into bytes. -/
theorem e_copyB {e : TypeId} {b o N dl cap i : Nat} {f : Nat → Nat} {t : TypeId} {l : List Nat} {B : Mem} {vy : Value} (hT : P.underlying T = some (.slice e)) (hs : (P.info? e).map (·.size) = some 1) (hsrc : Shows B 1 vy l.length (l.map by8)) (hB : SeenE G R M B)
    (hx : rd E x = some (.slice (some ⟨b, o, none⟩) dl cap)) (hy : rd E y = some vy) (hm : lkM M i = some ⟨b, arr .u8 N f, t⟩) (ho : o + dl ≤ N) (hd : Nat.blt d n = true)
    (h : OpsE P G R ops n K rest ((d, ii (min l.length dl)) :: E) ((i, some ⟨b, arr .u8 N (fun j => if o ≤ j ∧ j < o + min l.length dl then l.getD (j - o) 0 else f j), t⟩) :: M)) : OpsE P G R ops n K (⟨some d, .call ⟨.builtin .copy, #[x, y], #[T, T']⟩, ty, pos, aft, none⟩ :: rest) E M :=
  e_copyS (F := fun i => .int .u8 (f i : Int)) hT hs hsrc hB (fun u hu => by obtain ⟨n, _, rfl⟩ := List.mem_map.1 hu; rfl) hx hy hm ho hd (by
    have e1 : arrv N (putv (fun i => .int .u8 (f i : Int)) o (min l.length dl) (fun j => (l.map by8).getD j undef)) = arr .u8 N (fun j => if o ≤ j ∧ j < o + min l.length dl then l.getD (j - o) 0 else f j) := by
      rw [arr_arrv]
      refine arrv_congr fun j _ => ?_
      unfold putv
      by_cases hj : o ≤ j ∧ j < o + min l.length dl
      · rw [if_pos hj, if_pos hj]
        have : j - o < l.length := by omega
        simp [List.getD_eq_getElem?_getD, List.getElem?_eq_getElem this]
      · rw [if_neg hj, if_neg hj]
    rw [e1]; exact h)
end
end Go.Proofs.YtlaebpebgjaehaaDoor
