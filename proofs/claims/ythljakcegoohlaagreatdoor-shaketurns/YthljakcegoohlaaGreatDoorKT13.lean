import Derived.Test.YthljakcegoohlaaGreatDoorKT12
set_option maxRecDepth 30000
namespace Go.Proofs.YthljakcegoohlaaGreatDoor
open Go Go.RowKit
variable {G : Mem}
set_option maxHeartbeats 2000000 in
theorem chkpl_fn (v : Value) (ps : List Int) (t : Nat) (hv : Shows G 1 v ps.length (ps.map iv)) (hz : ps.length ≤ 9223372036854775807) : Fn Tryz.prog G 77 #[v, ii t] (ii (pchk t ps)) := by
  refine Qf1 Tryz.func77 ?_
  refine Qs<|Qp<|(Qa)<|Qn<|Qs<|Qs<|Qp<|(Qm)<|(QC hv)<|(QG)<|Qn ?_
  refine e_cond rfl ?_ ?_
  · intro hc0
    rw [show pchk t ps = 1 by rw [pchk, if_pos (by have := of_decide_eq_true hc0; omega)]]
    refine Qs<|Qp<|(Qa)<|Qn<|Qr ?_
    first | rw [hpc, hf0_1, pck_end hz0] | skip
    exact ⟨_, rfl, .tmp rfl⟩
  · intro hc0
    have hpc : pchk t ps = pck t (-1) ps := by rw [pchk, if_neg (by have := of_decide_eq_false hc0; omega)]
    refine Qk<|Qs<|Qs<|Qp<|(Qm)<|(QC hv)<|(Qm)<|Qn<|Qb ?_
    refine QzK [(0, _), (1, _), (10, _), (11, _)] [] (fun kk E m => ∃ (i : Nat), kk = ps.length - i ∧ E = [(12, ii i)] ∧ m = [] ∧ (i ≤ ps.length) ∧ (pck t (-1) ps = pck t (lastP ps i) (ps.drop i))) ⟨0, rfl, rfl, rfl, by omega, rfl⟩ ⟨rfl, rfl, rfl, rfl, rfl, trivial⟩ trivial ?_
    rintro kk E m ⟨i, rfl, rfl, rfl, hf0_0, hf0_1⟩
    simp only [catE, catL]
    refine Qs<|Qp<|(Ql)<|Qn<|Qs ?_
    refine e_cond rfl ?_ ?_
    · intro hc1
      have hc1 : i < ps.length := by have := of_decide_eq_true hc1; omega
      refine Qk<|Qs<|Qb<|Qs<|Qp<|(Qm) ?_
      refine e_atV hv (Uu 25) (Uz 3) rfl rfl (by omega) rfl ?_
      refine (QS) ?_
      refine e_loadV hv seenG (Uu 3) rfl rfl (iv_at (by omega)) rfl ?_
      refine (Qa)<|(Qa)<|Qn<|Qs<|Qs<|Qp ?_
      refine e_join [(0, _), (1, _), (5, _), (6, _), (10, _), (11, _), (12, _), (13, _), (14, _), (15, _), (16, _)] [(23, .bool (decide ((ps.getD i 0) < 0) || decide ((t : Int) < (ps.getD i 0))))] [] ⟨rfl, rfl, rfl, rfl, rfl, rfl, rfl, rfl, rfl, rfl, rfl, trivial⟩ trivial ?_ ?_
      · skip
        refine (Qm)<|(Ql)<|(Qm) ?_
        refine e_case (b := decide ((ps.getD i 0) < 0)) (fun hb0 => ?_) (fun hb0 => ?_)
        · skip
          refine (Qo)<|(Qo)<|(Qo)<|(QT)<|Qn ?_
          exact ⟨⟨rfl, rfl, rfl, rfl, rfl, rfl, rfl, rfl, rfl, rfl, rfl, trivial⟩, ⟨bool_fin (by rw [hb0] <;> rfl), trivial⟩, trivial⟩
        · skip
          refine (Qy)<|(Qm)<|(Qy)<|(Qm)<|(Qy)<|(QG)<|(QF)<|Qn ?_
          exact ⟨⟨rfl, rfl, rfl, rfl, rfl, rfl, rfl, rfl, rfl, rfl, rfl, trivial⟩, ⟨bool_fin (by rw [hb0] <;> rfl), trivial⟩, trivial⟩
      · simp only [catE]
        refine e_cond rfl ?_ ?_
        · intro hc2
          rw [hpc, hf0_1, pck_range (by omega) (or_true2 hc2)]
          refine Qs<|Qp<|(Qa)<|Qn<|Qr ?_
          first | rw [hpc, hf0_1, pck_end hz0] | skip
          exact ⟨_, rfl, .tmp rfl⟩
        · intro hc2
          have hxr : ¬ ((ps.getD i 0) < 0 ∨ (t : Int) < (ps.getD i 0)) := or_false2 hc2
          refine Qk<|Qs<|Qp ?_
          refine e_join [(0, _), (1, _), (5, _), (6, _), (10, _), (11, _), (12, _), (13, _), (14, _), (15, _), (16, _), (23, _)] [(34, .bool (decide ((0 : Int) < (i : Int)) && decide ((ps.getD i 0) ≤ (ps.getD (i - 1) 0))))] [] ⟨rfl, rfl, rfl, rfl, rfl, rfl, rfl, rfl, rfl, rfl, rfl, rfl, trivial⟩ trivial ?_ ?_
          · skip
            refine (Qm)<|(QG)<|(Qm) ?_
            refine e_case (b := decide ((0 : Int) < (i : Int))) (fun hb1 => ?_) (fun hb1 => ?_)
            · skip
              refine (Qy)<|(Qm)<|(Qy)<|(Qm)<|(Qy)<|(Qm)<|(Qy) ?_
              refine e_sub_in (q := 1) rfl rfl rfl (by omega) (by have := of_decide_eq_true hb1; omega) ?_
              refine (Qy) ?_
              refine e_atV hv (Uu 25) (Uz 3) rfl rfl (by have := of_decide_eq_true hb1; omega) rfl ?_
              refine (QS)<|(Qy) ?_
              refine e_loadV hv seenG (Uu 3) rfl rfl (iv_at (by have := of_decide_eq_true hb1; omega)) rfl ?_
              refine (Qy)<|(QL)<|(QT)<|Qn ?_
              exact ⟨⟨rfl, rfl, rfl, rfl, rfl, rfl, rfl, rfl, rfl, rfl, rfl, rfl, trivial⟩, ⟨bool_fin (by rw [hb1] <;> rfl), trivial⟩, trivial⟩
            · skip
              refine (Qo)<|(Qo)<|(Qo)<|(Qo)<|(Qo)<|(Qo)<|(Qo)<|(QF)<|Qn ?_
              exact ⟨⟨rfl, rfl, rfl, rfl, rfl, rfl, rfl, rfl, rfl, rfl, rfl, rfl, trivial⟩, ⟨bool_fin (by rw [hb1] <;> rfl), trivial⟩, trivial⟩
          · simp only [catE]
            refine e_cond rfl ?_ ?_
            · intro hc3
              rw [hpc, hf0_1, pck_form (by omega) hxr (last_yes hc3)]
              refine Qs<|Qp<|(Qa)<|Qn<|Qr ?_
              first | rw [hpc, hf0_1, pck_end hz0] | skip
              exact ⟨_, rfl, .tmp rfl⟩
            · intro hc3
              have hxl := last_no hxr hc3
              refine Qk<|Qp<|(Q2 1)<|(Qm)<|Qn ?_
              refine QzL ⟨i + 1, rfl, rfl, rfl, by omega, (hf0_1.trans (by rw [pck_step (by omega) hxr hxl, lastP, if_neg (by omega)]; rfl))⟩ ⟨rfl, rfl, rfl, rfl, rfl, trivial⟩ trivial ?_
              omega
    · intro hc1
      have hc1 := of_decide_eq_false hc1
      have hz0 : i = ps.length := by omega
      refine Qe<|Qs<|Qp<|(Qa)<|Qn<|Qr ?_
      first | rw [hpc, hf0_1, pck_end hz0] | skip
      exact ⟨_, rfl, .tmp rfl⟩
set_option maxHeartbeats 2000000 in
theorem putpsk_fn (rT t n : Nat) (TF : Nat → Value) (q : List Nat) (oz : Option Blk) (hR : OwnS 3 1 (TF (n - 1)) q.length (iis q) oz.toList) (ht : n - 1 < t) (hn : n ≤ 100) (hq : q.length ≤ 100) (hne : ∀ z, oz = some z → z.b ≠ rT) : Fx Tryz.prog G (⟨rT, arrv t TF, 25⟩ :: oz.toList) 78 #[slv rT t, ii n] (Two rT 25 oz (fun v c' oz' => v = Value.tuple #[] ∧ ∃ w', c' = arrv t (updv TF (n - 1) w') ∧ OwnS 3 1 w' (insR n q).length (iis (insR n q)) oz'.toList)) := by
  refine fxT0 (n := 24) Tryz.func78 rfl rfl (by simp) (argE [slv rT t, ii n] 0) (argE_ok _) hne ?_
  refine Qs<|Qs<|Qp<|(Qm)<|(Qc)<|Qn ?_
  refine e_cond rfl ?_ ?_
  · intro hc0
    obtain rfl : n = 0 := by have := of_decide_eq_true hc0; omega
    refine Qs<|Qp<|(Qm) ?_
    refine e_buildSl 2 #[ii 7] (Uu 25 rfl) (Uz 3 rfl) (Ub 3 rfl) (by decide) (by decide) rfl (by kernel_rfl) rfl fun r3 => ?_
    refine (Qm) ?_
    refine e_atSl (0) (j := 0) (Uu 27) (Uz 25) rfl rfl (by omega) (by omega) rfl ?_
    refine e_load1 (i := 0) (Uu 25) rfl rfl rfl (arrv_get (by omega)) rfl ⟨[], trivial⟩ ?_
    refine e_append 2 (own_lit 3 r3 [7] (by decide)) hR.shows rfl (seenM 1 rfl ⟨[], trivial⟩) (Uu 25) (Uz 3) (Uy 3) (Ub 3) (by rfl) rfl rfl (iis_one _) (by simp only [maxLen, List.length_cons, List.length_nil]; omega) (by simp only [List.length_cons, List.length_nil]; omega) rfl fun v2_1 oz2_1 ho2_1 => ?_
    refine e_atSl (0) (j := 0) (Uu 27) (Uz 25) rfl rfl (by omega) (by omega) rfl ?_
    refine e_st1 (i := 0) (Uz 25) rfl rfl (shows_oneC ho2_1.shows) rfl (by omega) (.inl rfl) ?_
    refine Qn<|Qr ?_
    exact ⟨rfl, _, _, (by first | exact ⟨rfl, _, rfl, own_fix ho2_1 (by rw [insR_len]; simp only [List.length_cons, List.length_nil]; omega) rfl⟩ | exact ⟨rfl, _, rfl, own_fix ho2_1 (by rw [insR_len]) (by rw [insR, if_neg hn0]; simp [iis])⟩), rfl, (by first | exact .inr ⟨2, _, by decide, by decide, rfl, rfl, rfl⟩ | (rcases hw2_1 with ⟨rfl, hid, rfl⟩ | ⟨rfl, rfl⟩; exact .inl ⟨rfl, hid⟩; exact .inr ⟨3, _, by decide, by decide, rfl, rfl, rfl⟩))⟩
  · intro hc0
    have hn0 : ¬ n = 0 := by have := of_decide_eq_false hc0; omega
    refine Qk<|Qp<|(Qm)<|(Qm) ?_
    refine e_sub_in (q := 1) rfl rfl rfl (by omega) (by omega) ?_
    refine (Qm)<|(Qm) ?_
    refine e_sub_in (q := 1) rfl rfl rfl (by omega) (by omega) ?_
    refine e_atSl (n - 1) (Uu 27) (Uz 25) rfl rfl (by omega) (by omega) rfl ?_
    refine e_load1 (i := 0) (Uu 25) rfl rfl rfl (arrv_get (by omega)) rfl ⟨[], trivial⟩ ?_
    refine e_buildSl 2 #[ii 7] (Uu 25 rfl) (Uz 3 rfl) (Ub 3 rfl) (by decide) (by decide) rfl (by kernel_rfl) rfl fun r3 => ?_
    refine e_append2 1 3 hR (shows_new _ _ (by rfl)) rfl (seen1 2 rfl ⟨[], trivial⟩) (Uu 25) (Uz 3) (Uy 3) (Ub 3) (by rfl) rfl rfl (one_ii 7) (by simp only [maxLen]; omega) (by omega) rfl fun v2_1 oi2_1 oj2_1 oz2_1 ho2_1 hw2_1 => ?_
    refine e_atSl (n - 1) (Uu 27) (Uz 25) rfl rfl (by omega) (by omega) rfl ?_
    refine e_st1 (i := 0) (Uz 25) rfl rfl (shows_oneC ho2_1.shows) rfl (by omega) (.inl rfl) ?_
    refine Qn ?_
    exact ⟨rfl, _, _, (by first | exact ⟨rfl, _, rfl, own_fix ho2_1 (by rw [insR_len]; simp only [List.length_cons, List.length_nil]; omega) rfl⟩ | exact ⟨rfl, _, rfl, own_fix ho2_1 (by rw [insR_len]) (by rw [insR, if_neg hn0]; simp [iis])⟩), rfl, (by first | exact .inr ⟨2, _, by decide, by decide, rfl, rfl, rfl⟩ | (rcases hw2_1 with ⟨rfl, hid, rfl⟩ | ⟨rfl, rfl⟩; exact .inl ⟨rfl, hid⟩; exact .inr ⟨3, _, by decide, by decide, rfl, rfl, rfl⟩))⟩
end Go.Proofs.YthljakcegoohlaaGreatDoor
namespace Go.Proofs.YthljakcegoohlaaGreatDoor
open Go Go.RowKit
variable {G : Mem}
set_option maxHeartbeats 4000000 in
theorem based_fn (l : List Nat) (hl : ∀ b ∈ l, b < 256) (h0 : ptext l ≠ []) : Fx Tryz.prog G [] 76 #[sv l] (fun v l1 nw => l1 = [] ∧ ∃ os, nw = flatO os ∧ ∃ v', v = .tuple #[v', .bool true] ∧ BaseIs 3 25 l (decide (l = nXF)) (bQ l 0) (bQ l 1) (bU l) v' os) := by
  refine fxO2 (n := 76) Tryz.func76 rfl rfl (by simp) (argE [sv l] 0) (argE_ok _) ?_
  refine Qs<|Qp<|(QH 0) fun r1=>(Qa)<|Qn<|Qs<|Qp<|(QH 1) fun r2=>Qn<|Qs<|Qs<|Qp<|(Qm)<|Qn<|Qb<|Qs<|Qp ?_
  refine e_eqStr (k := [78, 78]) rfl rfl rfl hl (by decide) ?_
  refine (Qa)<|Qn ?_
  refine e_cond rfl ?_ ?_
  · intro hc0
    obtain rfl : l = nNN := of_decide_eq_true hc0
    refine Qs<|Qp<|(Qf 0) ?_
    refine e_stV (i := 1) 0 (Uz 9) rfl rfl rfl rfl rfl (by decide) (.inl rfl) ?_
    refine Qn<|Qp ?_
    refine e_buildSl 2 #[ii 1] (Uu 25 rfl) (Uz 3 rfl) (Ub 3 rfl) (by decide) (by decide) rfl (by kernel_rfl) rfl fun r3 => ?_
    refine e_buildSl 3 #[ii 1, ii 3] (Uu 25 rfl) (Uz 3 rfl) (Ub 3 rfl) (by decide) (by decide) rfl (by kernel_rfl) rfl fun r4 => ?_
    refine e_buildSl 4 #[slv r3 1, slv r4 2] (Uu 27 rfl) (Uz 25 rfl) (Ub 25 rfl) (by decide) (by decide) rfl (fill2v (by simp) rfl rfl) rfl fun r5 => ?_
    refine (Qf 5) ?_
    refine e_stV (i := 1) 5 (Uz 27) rfl rfl rfl rfl rfl (by decide) (.inl rfl) ?_
    refine Qn<|Qs<|Qp<|(QD 1) ?_
    refine e_storeA (i := 0) (Uz 29) rfl rfl (arrv_size _ _) (cells_one ⟨fun _ => rfl, fun _ => rfl, fun _ => rfl, fun _ => rfl, fun _ => rfl, fun _ => rfl, trivial⟩) rfl cells_sz (.inl rfl) ?_
    refine (Qa)<|Qn<|Qr ?_
    exact ⟨_, _, _, _, [90, 91, 2, 3, 92, 4], rfl, .cell (i := 0) rfl rfl (Uu 29) rfl (Uz 29) (arrv_size _ _), .tmp rfl, (by rw [tab_NN.1, tab_NN.2.1, tab_NN.2.2]; exact base_two [1] [1, 3] (own_nil _ _) (own_nil _ _) (by decide) (by decide)), by decide, rfl⟩
  · intro hc0
    have hn0 := of_decide_eq_false hc0
    refine Qs<|Qp ?_
    refine e_eqStr (k := [78, 75]) rfl rfl rfl hl (by decide) ?_
    refine (Qa)<|Qn ?_
    refine e_cond rfl ?_ ?_
    · intro hc1
      obtain rfl : l = nNK := of_decide_eq_true hc1
      refine Qs<|Qp<|(Qf 0) ?_
      refine e_stV (i := 1) 0 (Uz 9) rfl rfl rfl rfl rfl (by decide) (.inl rfl) ?_
      refine Qn<|Qs<|Qp ?_
      refine e_buildSl 2 #[ii 2] (Uu 25 rfl) (Uz 3 rfl) (Ub 3 rfl) (by decide) (by decide) rfl (by kernel_rfl) rfl fun r3 => ?_
      refine (Qf 3)<|(QA 4 1) ?_
      refine e_stV (i := 1) 4 (Uz 25) rfl rfl rfl rfl rfl (by decide) (.inl rfl) ?_
      refine Qn<|Qp ?_
      refine e_buildSl 3 #[ii 1, ii 4] (Uu 25 rfl) (Uz 3 rfl) (Ub 3 rfl) (by decide) (by decide) rfl (by kernel_rfl) rfl fun r4 => ?_
      refine e_buildSl 4 #[ii 1, ii 3] (Uu 25 rfl) (Uz 3 rfl) (Ub 3 rfl) (by decide) (by decide) rfl (by kernel_rfl) rfl fun r5 => ?_
      refine e_buildSl 5 #[slv r4 2, slv r5 2] (Uu 27 rfl) (Uz 25 rfl) (Ub 25 rfl) (by decide) (by decide) rfl (fill2v (by simp) rfl rfl) rfl fun r6 => ?_
      refine (Qf 5) ?_
      refine e_stV (i := 1) 5 (Uz 27) rfl rfl rfl rfl rfl (by decide) (.inl rfl) ?_
      refine Qn<|Qs<|Qp<|(QD 1) ?_
      refine e_storeA (i := 0) (Uz 29) rfl rfl (arrv_size _ _) (cells_one ⟨fun _ => rfl, fun _ => rfl, fun _ => rfl, fun _ => rfl, fun _ => rfl, fun _ => rfl, trivial⟩) rfl cells_sz (.inl rfl) ?_
      refine (Qa)<|Qn<|Qr ?_
      exact ⟨_, _, _, _, [90, 2, 3, 4, 92, 5], rfl, .cell (i := 0) rfl rfl (Uu 29) rfl (Uz 29) (arrv_size _ _), .tmp rfl, (by rw [tab_NK.1, tab_NK.2.1, tab_NK.2.2]; exact base_two [1, 4] [1, 3] (own_nil _ _) (own_lit 3 r3 [2] (by decide)) (by decide) (by decide)), by decide, rfl⟩
    · intro hc1
      have hn1 := of_decide_eq_false hc1
      refine Qs<|Qp ?_
      refine e_eqStr (k := [88, 88]) rfl rfl rfl hl (by decide) ?_
      refine (Qa)<|Qn ?_
      refine e_cond rfl ?_ ?_
      · intro hc2
        obtain rfl : l = nXX := of_decide_eq_true hc2
        refine Qs<|Qp<|(Qf 0) ?_
        refine e_stV (i := 1) 0 (Uz 9) rfl rfl rfl rfl rfl (by decide) (.inl rfl) ?_
        refine Qn<|Qp ?_
        refine e_buildSl 2 #[ii 1] (Uu 25 rfl) (Uz 3 rfl) (Ub 3 rfl) (by decide) (by decide) rfl (by kernel_rfl) rfl fun r3 => ?_
        refine e_buildSl 3 #[ii 1, ii 3, ii 2, ii 4] (Uu 25 rfl) (Uz 3 rfl) (Ub 3 rfl) (by decide) (by decide) rfl (by kernel_rfl) rfl fun r4 => ?_
        refine e_buildSl 4 #[ii 2, ii 5] (Uu 25 rfl) (Uz 3 rfl) (Ub 3 rfl) (by decide) (by decide) rfl (by kernel_rfl) rfl fun r5 => ?_
        refine e_buildSl 5 #[slv r3 1, slv r4 4, slv r5 2] (Uu 27 rfl) (Uz 25 rfl) (Ub 25 rfl) (by decide) (by decide) rfl (fill3 (by simp) rfl rfl rfl) rfl fun r6 => ?_
        refine (Qf 5) ?_
        refine e_stV (i := 1) 5 (Uz 27) rfl rfl rfl rfl rfl (by decide) (.inl rfl) ?_
        refine Qn<|Qs<|Qp<|(QD 1) ?_
        refine e_storeA (i := 0) (Uz 29) rfl rfl (arrv_size _ _) (cells_one ⟨fun _ => rfl, fun _ => rfl, fun _ => rfl, fun _ => rfl, fun _ => rfl, fun _ => rfl, trivial⟩) rfl cells_sz (.inl rfl) ?_
        refine (Qa)<|Qn<|Qr ?_
        exact ⟨_, _, _, _, [90, 91, 2, 3, 4, 5], rfl, .cell (i := 0) rfl rfl (Uu 29) rfl (Uz 29) (arrv_size _ _), .tmp rfl, (by rw [tab_XX.1, tab_XX.2.1, tab_XX.2.2]; exact base_three [1] [1, 3, 2, 4] [2, 5] (own_nil _ _) (own_nil _ _) (by decide) (by decide) (by decide)), by decide, rfl⟩
      · intro hc2
        have hn2 := of_decide_eq_false hc2
        refine Qs<|Qp ?_
        refine e_eqStr (k := [73, 75]) rfl rfl rfl hl (by decide) ?_
        refine (Qa)<|Qn ?_
        refine e_cond rfl ?_ ?_
        · intro hc3
          obtain rfl : l = nIK := of_decide_eq_true hc3
          refine Qs<|Qp<|(Qf 0) ?_
          refine e_stV (i := 1) 0 (Uz 9) rfl rfl rfl rfl rfl (by decide) (.inl rfl) ?_
          refine Qn<|Qs<|Qp ?_
          refine e_buildSl 2 #[ii 2] (Uu 25 rfl) (Uz 3 rfl) (Ub 3 rfl) (by decide) (by decide) rfl (by kernel_rfl) rfl fun r3 => ?_
          refine (Qf 3)<|(QA 4 1) ?_
          refine e_stV (i := 1) 4 (Uz 25) rfl rfl rfl rfl rfl (by decide) (.inl rfl) ?_
          refine Qn<|Qp ?_
          refine e_buildSl 3 #[ii 1, ii 4, ii 2, ii 6] (Uu 25 rfl) (Uz 3 rfl) (Ub 3 rfl) (by decide) (by decide) rfl (by kernel_rfl) rfl fun r4 => ?_
          refine e_buildSl 4 #[ii 1, ii 3, ii 5] (Uu 25 rfl) (Uz 3 rfl) (Ub 3 rfl) (by decide) (by decide) rfl (by kernel_rfl) rfl fun r5 => ?_
          refine e_buildSl 5 #[slv r4 4, slv r5 3] (Uu 27 rfl) (Uz 25 rfl) (Ub 25 rfl) (by decide) (by decide) rfl (fill2v (by simp) rfl rfl) rfl fun r6 => ?_
          refine (Qf 5) ?_
          refine e_stV (i := 1) 5 (Uz 27) rfl rfl rfl rfl rfl (by decide) (.inl rfl) ?_
          refine Qn<|Qs<|Qp<|(QD 1) ?_
          refine e_storeA (i := 0) (Uz 29) rfl rfl (arrv_size _ _) (cells_one ⟨fun _ => rfl, fun _ => rfl, fun _ => rfl, fun _ => rfl, fun _ => rfl, fun _ => rfl, trivial⟩) rfl cells_sz (.inl rfl) ?_
          refine (Qa)<|Qn<|Qr ?_
          exact ⟨_, _, _, _, [90, 2, 3, 4, 92, 5], rfl, .cell (i := 0) rfl rfl (Uu 29) rfl (Uz 29) (arrv_size _ _), .tmp rfl, (by rw [tab_IK.1, tab_IK.2.1, tab_IK.2.2]; exact base_two [1, 4, 2, 6] [1, 3, 5] (own_nil _ _) (own_lit 3 r3 [2] (by decide)) (by decide) (by decide)), by decide, rfl⟩
        · intro hc3
          have hn3 := of_decide_eq_false hc3
          refine Qs<|Qp ?_
          refine e_eqStr (k := [88, 75]) rfl rfl rfl hl (by decide) ?_
          refine (Qa)<|Qn ?_
          refine e_cond rfl ?_ ?_
          · intro hc4
            obtain rfl : l = nXK := of_decide_eq_true hc4
            refine Qs<|Qp<|(Qf 0) ?_
            refine e_stV (i := 1) 0 (Uz 9) rfl rfl rfl rfl rfl (by decide) (.inl rfl) ?_
            refine Qn<|Qs<|Qp ?_
            refine e_buildSl 2 #[ii 2] (Uu 25 rfl) (Uz 3 rfl) (Ub 3 rfl) (by decide) (by decide) rfl (by kernel_rfl) rfl fun r3 => ?_
            refine (Qf 3)<|(QA 4 1) ?_
            refine e_stV (i := 1) 4 (Uz 25) rfl rfl rfl rfl rfl (by decide) (.inl rfl) ?_
            refine Qn<|Qp ?_
            refine e_buildSl 3 #[ii 1, ii 4] (Uu 25 rfl) (Uz 3 rfl) (Ub 3 rfl) (by decide) (by decide) rfl (by kernel_rfl) rfl fun r4 => ?_
            refine e_buildSl 4 #[ii 1, ii 3] (Uu 25 rfl) (Uz 3 rfl) (Ub 3 rfl) (by decide) (by decide) rfl (by kernel_rfl) rfl fun r5 => ?_
            refine e_buildSl 5 #[ii 2, ii 5] (Uu 25 rfl) (Uz 3 rfl) (Ub 3 rfl) (by decide) (by decide) rfl (by kernel_rfl) rfl fun r6 => ?_
            refine e_buildSl 6 #[slv r4 2, slv r5 2, slv r6 2] (Uu 27 rfl) (Uz 25 rfl) (Ub 25 rfl) (by decide) (by decide) rfl (fill3 (by simp) rfl rfl rfl) rfl fun r7 => ?_
            refine (Qf 5) ?_
            refine e_stV (i := 1) 5 (Uz 27) rfl rfl rfl rfl rfl (by decide) (.inl rfl) ?_
            refine Qn<|Qs<|Qp<|(QD 1) ?_
            refine e_storeA (i := 0) (Uz 29) rfl rfl (arrv_size _ _) (cells_one ⟨fun _ => rfl, fun _ => rfl, fun _ => rfl, fun _ => rfl, fun _ => rfl, fun _ => rfl, trivial⟩) rfl cells_sz (.inl rfl) ?_
            refine (Qa)<|Qn<|Qr ?_
            exact ⟨_, _, _, _, [90, 2, 3, 4, 5, 6], rfl, .cell (i := 0) rfl rfl (Uu 29) rfl (Uz 29) (arrv_size _ _), .tmp rfl, (by rw [tab_XK.1, tab_XK.2.1, tab_XK.2.2]; exact base_three [1, 4] [1, 3] [2, 5] (own_nil _ _) (own_lit 3 r3 [2] (by decide)) (by decide) (by decide) (by decide)), by decide, rfl⟩
          · intro hc4
            have hn4 := of_decide_eq_false hc4
            refine Qs<|Qp ?_
            refine e_eqStr (k := [75, 75]) rfl rfl rfl hl (by decide) ?_
            refine (Qa)<|Qn ?_
            refine e_cond rfl ?_ ?_
            · intro hc5
              obtain rfl : l = nKK := of_decide_eq_true hc5
              refine Qs<|Qp<|(Qf 0) ?_
              refine e_stV (i := 1) 0 (Uz 9) rfl rfl rfl rfl rfl (by decide) (.inl rfl) ?_
              refine Qn<|Qs<|Qp ?_
              refine e_buildSl 2 #[ii 2] (Uu 25 rfl) (Uz 3 rfl) (Ub 3 rfl) (by decide) (by decide) rfl (by kernel_rfl) rfl fun r3 => ?_
              refine e_buildSl 3 #[ii 2] (Uu 25 rfl) (Uz 3 rfl) (Ub 3 rfl) (by decide) (by decide) rfl (by kernel_rfl) rfl fun r4 => ?_
              refine e_build (arrv 2 (fun i => if i = 0 then slv r3 1 else slv r4 1)) (Ub 26 rfl) (Uu 26 rfl) (Uz 25 rfl) rfl (fill2v (by rfl) rfl rfl) rfl ?_
              refine (Qf 3) ?_
              refine e_stP (i := 1) (Uz 26) rfl rfl (fun j hj => by rcases (by omega : j = 0 ∨ j = 1) with rfl | rfl <;> rfl) rfl (by decide) (.inl rfl) ?_
              refine e_blk (c' := (cells 6 [pV (sv nKK), pV (.bool false), pV nilS, pV (slv r3 1), pV (slv r4 1), pV nilS])) (arrv_congr fun j hj => by rcases (by omega : j = 0 ∨ j = 1 ∨ j = 2 ∨ j = 3 ∨ j = 4 ∨ j = 5) with rfl | rfl | rfl | rfl | rfl | rfl <;> rfl) ?_
              refine Qn<|Qp ?_
              refine e_buildSl 4 #[ii 1, ii 4, ii 6] (Uu 25 rfl) (Uz 3 rfl) (Ub 3 rfl) (by decide) (by decide) rfl (by kernel_rfl) rfl fun r5 => ?_
              refine e_buildSl 5 #[ii 1, ii 3, ii 5] (Uu 25 rfl) (Uz 3 rfl) (Ub 3 rfl) (by decide) (by decide) rfl (by kernel_rfl) rfl fun r6 => ?_
              refine e_buildSl 6 #[slv r5 3, slv r6 3] (Uu 27 rfl) (Uz 25 rfl) (Ub 25 rfl) (by decide) (by decide) rfl (fill2v (by simp) rfl rfl) rfl fun r7 => ?_
              refine (Qf 5) ?_
              refine e_stV (i := 1) 5 (Uz 27) rfl rfl rfl rfl rfl (by decide) (.inl rfl) ?_
              refine Qn<|Qs<|Qp<|(QD 1) ?_
              refine e_storeA (i := 0) (Uz 29) rfl rfl (arrv_size _ _) (cells_one ⟨fun _ => rfl, fun _ => rfl, fun _ => rfl, fun _ => rfl, fun _ => rfl, fun _ => rfl, trivial⟩) rfl cells_sz (.inl rfl) ?_
              refine (Qa)<|Qn<|Qr ?_
              exact ⟨_, _, _, _, [2, 3, 4, 5, 92, 6], rfl, .cell (i := 0) rfl rfl (Uu 29) rfl (Uz 29) (arrv_size _ _), .tmp rfl, (by rw [tab_KK.1, tab_KK.2.1, tab_KK.2.2]; exact base_two [1, 4, 6] [1, 3, 5] (own_lit 3 r3 [2] (by decide)) (own_lit 3 r4 [2] (by decide)) (by decide) (by decide)), by decide, rfl⟩
            · intro hc5
              have hn5 := of_decide_eq_false hc5
              refine Qs<|Qp ?_
              refine e_eqStr (k := [88, 88, 102, 97, 108, 108, 98, 97, 99, 107]) rfl rfl rfl hl (by decide) ?_
              refine (Qa)<|Qn ?_
              refine e_cond rfl ?_ ?_
              · intro hc6
                obtain rfl : l = nXF := of_decide_eq_true hc6
                refine Qs<|Qp<|(Qf 0) ?_
                refine e_stV (i := 1) 0 (Uz 9) rfl rfl rfl rfl rfl (by decide) (.inl rfl) ?_
                refine (Qf 1) ?_
                refine e_stV (i := 1) 1 (Uz 4) rfl rfl rfl rfl rfl (by decide) (.inl rfl) ?_
                refine Qn<|Qs<|Qp ?_
                refine e_buildSl 2 #[ii 1] (Uu 25 rfl) (Uz 3 rfl) (Ub 3 rfl) (by decide) (by decide) rfl (by kernel_rfl) rfl fun r3 => ?_
                refine (Qf 3)<|(QA 3 0) ?_
                refine e_stV (i := 1) 3 (Uz 25) rfl rfl rfl rfl rfl (by decide) (.inl rfl) ?_
                refine Qn<|Qp ?_
                refine e_buildSl 3 #[ii 1, ii 3, ii 2, ii 4] (Uu 25 rfl) (Uz 3 rfl) (Ub 3 rfl) (by decide) (by decide) rfl (by kernel_rfl) rfl fun r4 => ?_
                refine e_buildSl 4 #[ii 2, ii 5] (Uu 25 rfl) (Uz 3 rfl) (Ub 3 rfl) (by decide) (by decide) rfl (by kernel_rfl) rfl fun r5 => ?_
                refine e_buildSl 5 #[slv r4 4, slv r5 2] (Uu 27 rfl) (Uz 25 rfl) (Ub 25 rfl) (by decide) (by decide) rfl (fill2v (by simp) rfl rfl) rfl fun r6 => ?_
                refine (Qf 5) ?_
                refine e_stV (i := 1) 5 (Uz 27) rfl rfl rfl rfl rfl (by decide) (.inl rfl) ?_
                refine Qn<|Qs<|Qp<|(QD 1) ?_
                refine e_storeA (i := 0) (Uz 29) rfl rfl (arrv_size _ _) (cells_one ⟨fun _ => rfl, fun _ => rfl, fun _ => rfl, fun _ => rfl, fun _ => rfl, fun _ => rfl, trivial⟩) rfl cells_sz (.inl rfl) ?_
                refine (Qa)<|Qn<|Qr ?_
                exact ⟨_, _, _, _, [2, 91, 3, 4, 92, 5], rfl, .cell (i := 0) rfl rfl (Uu 29) rfl (Uz 29) (arrv_size _ _), .tmp rfl, (by rw [tab_XF.1, tab_XF.2.1, tab_XF.2.2]; exact base_two [1, 3, 2, 4] [2, 5] (own_lit 3 r3 [1] (by decide)) (own_nil _ _) (by decide) (by decide)), by decide, rfl⟩
              · intro hc6
                have hn6 := of_decide_eq_false hc6
                exact absurd (ptext_no hn0 hn1 hn2 hn3 hn4 hn5 hn6) h0
end Go.Proofs.YthljakcegoohlaaGreatDoor
namespace Go.Proofs.YthljakcegoohlaaGreatDoor
open Go Go.RowKit
variable {G : Mem}
end Go.Proofs.YthljakcegoohlaaGreatDoor
namespace Go.Proofs.YthljakcegoohlaaGreatDoor
open Go Go.RowKit
variable {G : Mem}
set_option maxHeartbeats 8000000 in
theorem dwith_ok (l : List Nat) (v : Value) (ps : List Int) (hl : ∀ b ∈ l, b < 256) (hv : Shows G 1 v ps.length (ps.map iv)) (hz : ps.length ≤ 9223372036854775807) (he : (pwith l ps).1 = 0) : Fx Tryz.prog G [] 48 #[sv l, v] (fun w l1 nw => l1 = [] ∧ ∃ w', w = .tuple #[w', ii 0] ∧ PatIsI l (decide (l = nXF)) ps (wq l ps 0) (wq l ps 1) (wt l ps) w' nw) := by
  obtain ⟨h0, hps4, _⟩ := pwith_in he
  have hpc : pchk (bU l).length ps = 0 := by rw [(bU_len h0).1, ← pwith_pchk h0]; exact he
  obtain ⟨hp4, hpb⟩ := pchk_bound hpc
  obtain ⟨hw1, hw2, hw3⟩ := with_rows he
  rw [hw1, hw2, hw3]
  obtain ⟨_, hb2, hb3, hb4⟩ := bU_len h0
  refine fxD2 (n := 44) Tryz.func48 rfl rfl (by simp) (argE [sv l, v] 0) (argE_ok _) ?_
  refine Qs<|Qp<|(QH 0) fun r1=>(Qa)<|Qn<|Qs<|QR ⟨[], 4, [], none⟩<|(Qm) ?_
  refine e_callO 50 rfl rfl (Un 76) seenG (based_fn l hl h0) (base_room 3 25 l (decide (l = nXF)) (bQ l 0) (bQ l 1) (bU l) (.bool true) (by have := (bQ_len h0).1; omega) (by have := (bQ_len h0).2; omega) (fun q hq => by have := (bU_len h0).2.2.2 q hq; omega) (by have := (bU_len h0).2.1; have := (bU_len h0).2.2.1; omega)) rfl rfl fun v1_1 os1_1 hO1_1 => ?_
  obtain ⟨v9, rfl, va, vb, TF, oa, ob, o0, o1, o2, rT, rfl, rfl, hA, hB, hR⟩ := hO1_1
  simp only [labO]
  refine (Qm)<|(Qx)<|(Qx)<|(QH 1) fun r2=>?_
  refine e_storeA (i := 1) (Uz 29) rfl rfl (arrv_size _ _) (catOkP rfl (shows_oneC hA.shows) (shows_oneC hB.shows) rfl) rfl cells_sz (.inl rfl) ?_
  refine (Qa)<|Qn<|Qs<|Qs<|Qp<|(Qm)<|(Q0)<|Qn<|(Qcf)<|Qk<|Qs<|Qs<|Qp<|(Qm)<|(Qf 5)<|(QV 5 1) ?_
  refine e_lenSl (Uu 27) rfl rfl rfl ?_
  refine e_as (show _ = ii (bU l).length from rfl) ?_
  refine e_call rfl (Un 77) (chkpl_fn v ps (bU l).length hv hz) rfl rfl ?_
  refine e_as (congrArg ii hpc) ?_
  refine (Qa)<|Qn<|Qs<|Qp<|(Qm)<|(QN) ?_
  refine e_as (congrArg Value.bool (decide_eq_false (by decide))) ?_
  refine Qn<|(Qcf)<|Qk<|Qs<|Qp ?_
  refine e_buildSl0 2 (Uu 25 rfl) (Uz 3 rfl) rfl fun r3 => ?_
  refine (Qm) ?_
  refine e_append 2 own_none hv rfl seenG (Uu 25) (Uz 3) (Uy 3) (Ub 3) (by rfl) rfl rfl iv_one (by simp only [maxLen]; omega) (by omega) rfl fun v3_2 oz3_2 ho3_2 => ?_
  refine (Qf 2) ?_
  refine e_stV (i := 1) 2 (Uz 25) rfl rfl (shows_oneC ho3_2.shows) rfl rfl (by decide) (.inl rfl) ?_
  refine Qn<|Qs<|Qs<|Qp<|(Qm)<|(QC hv)<|(Qm)<|Qn<|Qb ?_
  refine QzK [(4, _), (5, _), (6, _), (32, _), (33, _)] [(0, _), (1, _), (2, oz3_2), (50, oa), (51, ob)] (fun kk E m => ∃ (i : Nat) (TF1 : Nat → Value) (p0 : Option Blk) (p1 : Option Blk) (p2 : Option Blk), kk = ps.length - i ∧ E = [(34, ii i)] ∧ m = [(52, p0), (53, p1), (54, p2), (55, (some ⟨rT, arrv (bU l).length TF1, 25⟩))] ∧ (i ≤ ps.length) ∧ (RowsIs 3 TF1 ((ps.take i).foldl insU (bU l)) p0 p1 p2) ∧ (∀ q ∈ (ps.take i).foldl insU (bU l), q.length ≤ 4 + i)) ⟨0, TF, o0, o1, o2, rfl, rfl, rfl, by omega, (by rw [List.take_zero]; exact hR), (by rw [List.take_zero]; exact hb4)⟩ ⟨rfl, rfl, rfl, rfl, rfl, rfl, trivial⟩ ⟨rfl, rfl, rfl, rfl, rfl, rfl, rfl, rfl, rfl, trivial⟩ ?_
  rintro kk E m ⟨i, TF1, p0, p1, p2, rfl, rfl, rfl, hf0_0, hf0_1, hf0_2⟩
  simp only [catE, catL]
  refine Qs<|Qp<|(Ql)<|Qn<|Qs ?_
  refine e_cond rfl ?_ ?_
  · intro hc2
    have hc2 : i < ps.length := by have := of_decide_eq_true hc2; omega
    refine Qk<|Qs<|Qb<|Qs<|Qp ?_
    refine e_atV hv (Uu 25) (Uz 3) rfl rfl (by omega) rfl ?_
    refine (QS) ?_
    obtain ⟨n9, hn9⟩ : ∃ n9 : Nat, ps.getD i 0 = (n9 : Int) := ⟨(ps.getD i 0).toNat, by have := hpb i (by omega); omega⟩
    refine e_loadV hv seenG (Uu 3) rfl rfl (iv_at (by omega)) rfl ?_
    refine e_as (show _ = ii n9 from congrArg (Value.int .i64) hn9) ?_
    refine (Qa)<|Qn ?_
    have hnb : n9 ≤ (bU l).length := by have := hpb i (by omega); omega
    have hrl := rowN_le hf0_2 (n9 - 1)
    rcases (by omega : n9 - 1 = 0 ∨ n9 - 1 = 1 ∨ n9 - 1 = 2) with hr | hr | hr
    · skip
      refine QR ⟨[], 5, [], none⟩ ?_
      have hRr : OwnS 3 1 (TF1 (n9 - 1)) (((ps.take i).foldl insU (bU l)).getD (n9 - 1) []).length (iis (((ps.take i).foldl insU (bU l)).getD (n9 - 1) [])) p0.toList := by (have h9 := hf0_1 (n9 - 1) (by rw [foldU_len]; omega)); rw [show ox p0 p1 p2 (n9 - 1) = p0 by rw [hr]; rfl] at h9; exact h9
      refine (Qf 5)<|(QV 5 1)<|(Qm) ?_
      refine e_callT 55 52 rfl rfl (Un 78) rfl rfl (by decide) (fun z hz => .inl hz) (fun hne => putpsk_fn (G := G) rT (bU l).length n9 TF1 (((ps.take i).foldl insU (bU l)).getD (n9 - 1) []) p0 hRr (by omega) (by omega) (by omega) hne) (fun m' => by obtain ⟨w, oz, h1, h2⟩ := own_fresh m' 3 (insR n9 (((ps.take i).foldl insU (bU l)).getD (n9 - 1) [])) (by rw [insR_len]; omega); exact ⟨_, _, oz, ⟨rfl, w, rfl, h1⟩, h2⟩) rfl rfl fun v5_3 c5_3 oz5_3 hS5_3 => ?_
      obtain ⟨rfl, w9, rfl, ho9⟩ := hS5_3
      refine Qn<|Qp<|(Q2 1)<|(Qm)<|Qn ?_
      refine QzL ⟨i + 1, _, _, _, _, rfl, rfl, rfl, by omega, (by (have h9 := rows_set (j := n9 - 1) hf0_1 (by omega) ho9); rw [if_pos hr, if_neg (by omega), if_neg (by omega)] at h9; rw [fold_step (by omega), hn9, insU_insR]; exact h9), (fun q hq => by rw [fold_step (by omega)] at hq; have := insU_row hf0_2 q hq; omega)⟩ ⟨rfl, rfl, rfl, rfl, rfl, rfl, trivial⟩ ⟨rfl, rfl, rfl, rfl, rfl, rfl, rfl, rfl, rfl, trivial⟩ ?_
      omega
    · skip
      refine QR ⟨[], 5, [], none⟩ ?_
      have hRr : OwnS 3 1 (TF1 (n9 - 1)) (((ps.take i).foldl insU (bU l)).getD (n9 - 1) []).length (iis (((ps.take i).foldl insU (bU l)).getD (n9 - 1) [])) p1.toList := by (have h9 := hf0_1 (n9 - 1) (by rw [foldU_len]; omega)); rw [show ox p0 p1 p2 (n9 - 1) = p1 by rw [hr]; rfl] at h9; exact h9
      refine (Qf 5)<|(QV 5 1)<|(Qm) ?_
      refine e_callT 55 53 rfl rfl (Un 78) rfl rfl (by decide) (fun z hz => .inl hz) (fun hne => putpsk_fn (G := G) rT (bU l).length n9 TF1 (((ps.take i).foldl insU (bU l)).getD (n9 - 1) []) p1 hRr (by omega) (by omega) (by omega) hne) (fun m' => by obtain ⟨w, oz, h1, h2⟩ := own_fresh m' 3 (insR n9 (((ps.take i).foldl insU (bU l)).getD (n9 - 1) [])) (by rw [insR_len]; omega); exact ⟨_, _, oz, ⟨rfl, w, rfl, h1⟩, h2⟩) rfl rfl fun v5_3 c5_3 oz5_3 hS5_3 => ?_
      obtain ⟨rfl, w9, rfl, ho9⟩ := hS5_3
      refine Qn<|Qp<|(Q2 1)<|(Qm)<|Qn ?_
      refine QzL ⟨i + 1, _, _, _, _, rfl, rfl, rfl, by omega, (by (have h9 := rows_set (j := n9 - 1) hf0_1 (by omega) ho9); rw [if_neg (by omega), if_pos hr, if_neg (by omega)] at h9; rw [fold_step (by omega), hn9, insU_insR]; exact h9), (fun q hq => by rw [fold_step (by omega)] at hq; have := insU_row hf0_2 q hq; omega)⟩ ⟨rfl, rfl, rfl, rfl, rfl, rfl, trivial⟩ ⟨rfl, rfl, rfl, rfl, rfl, rfl, rfl, rfl, rfl, trivial⟩ ?_
      omega
    · skip
      refine QR ⟨[], 5, [], none⟩ ?_
      have hRr : OwnS 3 1 (TF1 (n9 - 1)) (((ps.take i).foldl insU (bU l)).getD (n9 - 1) []).length (iis (((ps.take i).foldl insU (bU l)).getD (n9 - 1) [])) p2.toList := by (have h9 := hf0_1 (n9 - 1) (by rw [foldU_len]; omega)); rw [show ox p0 p1 p2 (n9 - 1) = p2 by rw [hr]; rfl] at h9; exact h9
      refine (Qf 5)<|(QV 5 1)<|(Qm) ?_
      refine e_callT 55 54 rfl rfl (Un 78) rfl rfl (by decide) (fun z hz => .inl hz) (fun hne => putpsk_fn (G := G) rT (bU l).length n9 TF1 (((ps.take i).foldl insU (bU l)).getD (n9 - 1) []) p2 hRr (by omega) (by omega) (by omega) hne) (fun m' => by obtain ⟨w, oz, h1, h2⟩ := own_fresh m' 3 (insR n9 (((ps.take i).foldl insU (bU l)).getD (n9 - 1) [])) (by rw [insR_len]; omega); exact ⟨_, _, oz, ⟨rfl, w, rfl, h1⟩, h2⟩) rfl rfl fun v5_3 c5_3 oz5_3 hS5_3 => ?_
      obtain ⟨rfl, w9, rfl, ho9⟩ := hS5_3
      refine Qn<|Qp<|(Q2 1)<|(Qm)<|Qn ?_
      refine QzL ⟨i + 1, _, _, _, _, rfl, rfl, rfl, by omega, (by (have h9 := rows_set (j := n9 - 1) hf0_1 (by omega) ho9); rw [if_neg (by omega), if_neg (by omega), if_pos hr] at h9; rw [fold_step (by omega), hn9, insU_insR]; exact h9), (fun q hq => by rw [fold_step (by omega)] at hq; have := insU_row hf0_2 q hq; omega)⟩ ⟨rfl, rfl, rfl, rfl, rfl, rfl, trivial⟩ ⟨rfl, rfl, rfl, rfl, rfl, rfl, rfl, rfl, rfl, trivial⟩ ?_
      omega
  · intro hc2
    have hc2 := of_decide_eq_false hc2
    have hz0 : i = ps.length := by omega
    refine Qe<|Qs<|Qp<|(QD 1) ?_
    refine e_freeze 2 [(0, _), (1, _), (50, _), (51, _), (52, _), (53, _), (54, _), (55, _)] rfl rfl (by repeat (first | exact bag_nil | exact bag_lab _ | apply bag_skip rfl)) ⟨rfl, rfl, rfl, rfl, rfl, rfl, rfl, rfl, trivial⟩ rfl rfl ?_
    simp only [catL]
    refine e_freeze 50 [(0, _), (1, _), (51, _), (52, _), (53, _), (54, _), (55, _)] rfl rfl (by repeat (first | exact bag_nil | exact bag_lab _ | apply bag_skip rfl)) ⟨rfl, rfl, rfl, rfl, rfl, rfl, rfl, trivial⟩ rfl rfl ?_
    simp only [catL]
    refine e_freeze 51 [(0, _), (1, _), (52, _), (53, _), (54, _), (55, _)] rfl rfl (by repeat (first | exact bag_nil | exact bag_lab _ | apply bag_skip rfl)) ⟨rfl, rfl, rfl, rfl, rfl, rfl, trivial⟩ rfl rfl ?_
    simp only [catL]
    refine e_freeze 52 [(0, _), (1, _), (53, _), (54, _), (55, _)] rfl rfl (by repeat (first | exact bag_nil | exact bag_lab _ | apply bag_skip rfl)) ⟨rfl, rfl, rfl, rfl, rfl, trivial⟩ rfl rfl ?_
    simp only [catL]
    refine e_freeze 53 [(0, _), (1, _), (54, _), (55, _)] rfl rfl (by repeat (first | exact bag_nil | exact bag_lab _ | apply bag_skip rfl)) ⟨rfl, rfl, rfl, rfl, trivial⟩ rfl rfl ?_
    simp only [catL]
    refine e_freeze 54 [(0, _), (1, _), (55, _)] rfl rfl (by repeat (first | exact bag_nil | exact bag_lab _ | apply bag_skip rfl)) ⟨rfl, rfl, rfl, trivial⟩ rfl rfl ?_
    simp only [catL]
    refine e_freeze 55 [(0, _), (1, _)] rfl rfl (by repeat (first | exact bag_nil | exact bag_lab _ | apply bag_skip rfl)) ⟨rfl, rfl, trivial⟩ rfl rfl ?_
    simp only [catL]
    refine e_storeA (i := 0) (Uz 29) rfl rfl (arrv_size _ _) (catOkP (shows_oneC ho3_2.shows) (shows_oneC hA.shows) (shows_oneC hB.shows) rfl) rfl cells_sz (.inl rfl) ?_
    refine (Qa)<|Qn<|Qr ?_
    exact ⟨_, _, _, ((((((([] ++ oz3_2.toList) ++ oa.toList) ++ ob.toList) ++ p0.toList) ++ p1.toList) ++ p2.toList) ++ (some ⟨rT, arrv (bU l).length TF1, 25⟩).toList), rfl, .cell (i := 0) rfl rfl (Uu 29) rfl (Uz 29) (arrv_size _ _), .tmp rfl, (by (have hR9 := hf0_1); rw [hz0, List.take_length] at hR9; exact with_pat (own_fix ho3_2 (Nat.zero_add _) rfl) hA hB hR9 (by rw [foldU_len]) (by intro o ho x hx; simp only [List.mem_cons, List.not_mem_nil, or_false] at ho; rcases ho with rfl | rfl | rfl | rfl | rfl | rfl <;> repeat (first | exact List.mem_append_right _ hx | apply List.mem_append_left)) (List.mem_append_right _ (List.mem_singleton.2 rfl))), (by repeat (first | exact bag_nil | exact bag_lab _ | apply bag_skip rfl))⟩
end Go.Proofs.YthljakcegoohlaaGreatDoor
namespace Go.Proofs.YthljakcegoohlaaGreatDoor
open Go Go.RowKit
variable {G : Mem}
set_option maxHeartbeats 4000000 in
theorem dp_n_ok (n : List Nat) (m : Int) (hn8 : ∀ b ∈ n, b < 256) (hz : n.length < 4294967281) (hb : bad1 n = false) (hi : ixp (midN n) = none) (he : (pwith (midN n) []).1 = 0) : Fx Tryz.prog (MLB m :: G) [] 24 #[sv n] (fun w l1 nw => l1 = [] ∧ ∃ w', w = .tuple #[w', ii 0] ∧ PatIs2 (midN n) (decide ((midN n) = nXF)) [] (wq (midN n) (ci []) 0) (wq (midN n) (ci []) 1) (wt (midN n) (ci [])) w' nw) := by
  have hmid : ∀ b ∈ midN n, b < 256 := fun b hb => hn8 b (List.mem_of_mem_drop (List.mem_of_mem_take hb))
  have hml : (midN n).length ≤ n.length := by unfold midN; simp; omega
  have hcl := cutP_len n hdN
  refine fxD2 (n := 21) Tryz.func24 rfl rfl (by simp) (argE [sv n] 0) (argE_ok _) ?_
  refine Qs<|Qp<|(QH 0) fun r1=>(Qa)<|Qn<|Qs<|Qp<|(Qm) ?_
  refine e_call rfl (Un 55) (apart_none n m hn8 hz hb hi) rfl rfl ?_
  refine (Qm)<|(Qx)<|(Qx)<|(Qx)<|(Qa)<|(Qa)<|(Qa)<|Qn<|Qs<|Qs<|Qp<|(Qm)<|(Q0)<|Qn<|(Qcf)<|Qk<|Qs<|QR ⟨[], 4, [], none⟩<|(Qm)<|(Qm) ?_
  refine e_callD [(0, _)] (by repeat (first | exact bag_nil | exact bag_lab _ | apply bag_skip rfl)) ⟨rfl, trivial⟩ rfl rfl rfl (Un 48) seenG (dwith_ok (G := (MLB m :: G)) (midN n) nilS [] hmid (.inl ⟨rfl, rfl, none, 0, rfl, fun _ => rfl⟩) (by simp) he) (pat_roomI (midN n) (decide ((midN n) = nXF)) [] (wq (midN n) [] 0) (wq (midN n) [] 1) (wt (midN n) [])) rfl rfl fun v2_1 nw2_1 hD2_1 => ?_
  simp only [catL]
  obtain ⟨_, rfl, vp1, hp1, va1, vb1, vt1, tv1, rfl, ha1, hb1, ht1, hn1, hl1⟩ := hD2_1
  refine (Qx)<|(Qx) ?_
  refine e_storeA (i := 0) (Uz 29) rfl rfl (arrv_size _ _) (catOkP (shows_oneC hp1) (shows_oneC ha1) (shows_oneC hb1) (shows_oneC ht1)) rfl cells_sz (.inl rfl) ?_
  refine (Qa)<|Qn<|Qr ?_
  exact ⟨_, _, _, ([] ++ nw2_1), rfl, .cell (i := 0) rfl rfl (Uu 29) rfl (Uz 29) (arrv_size _ _), .tmp rfl, (pat_two ⟨vp1, hp1, va1, vb1, vt1, tv1, rfl, ha1, hb1, ht1, hn1, hl1⟩), (by repeat (first | exact bag_nil | exact bag_lab _ | apply bag_skip rfl))⟩
end Go.Proofs.YthljakcegoohlaaGreatDoor
namespace Go.Proofs.YthljakcegoohlaaGreatDoor
open Go Go.RowKit
variable {G : Mem}
set_option maxHeartbeats 400000 in
theorem picked_fn (z : Int) (m : Nat) (hm : 0 < m) (hm2 : m < 4294967296) : Fn Tryz.prog G 23 #[.int .i64 z, ii m] (ii (pkn z m)) := by
  have htm := tmod_bd z hm
  refine Qf1 Tryz.func23 ?_
  refine Qs<|Qp<|(Qa)<|Qn<|Qs<|Qp<|(Qm)<|(Qm) ?_
  refine e_rem_z rfl rfl rfl (by omega) ?_
  refine (Qa)<|Qn<|Qs<|Qs<|Qp<|(Qm)<|(Ql)<|Qn ?_
  refine e_cond rfl ?_ ?_
  · intro hc0
    have hc0 := of_decide_eq_true hc0
    refine Qp<|(Qm)<|(Qm) ?_
    refine e_add_z rfl rfl rfl (by omega) (by omega) ?_
    refine e_as (congrArg (Value.int .i64) (pkn_neg hm hc0)) ?_
    refine (Qa)<|Qn<|Qs<|Qp<|(Qm)<|(Qa)<|Qn<|Qr ?_
    exact ⟨_, rfl, .tmp rfl⟩
  · intro hc0
    have hc0 := of_decide_eq_false hc0
    rw [ii, ← pkn_pos hm hc0]
    refine Qk<|Qs<|Qp<|(Qm)<|(Qa)<|Qn<|Qr ?_
    exact ⟨_, rfl, .tmp rfl⟩
set_option maxHeartbeats 2000000 in
theorem places_fn (t k : Nat) (ht : t ≤ 10) (hm : k ≤ 15) : Fx Tryz.prog G [] 49 #[ii t, ii k] (fun v l1 nw => l1 = [] ∧ ∃ v', v = v' ∧ OwnS 3 1 v' (plc t k).length ((plc t k).map (fun x : Nat => ii x)) nw) := by
  refine QfN Tryz.func49 ?_
  refine Qs<|Qp<|(Qa)<|Qn<|Qs<|Qp<|(Qa)<|Qn<|Qs<|Qs<|Qp<|(Qm)<|(Q2 1)<|(Qm)<|Qn<|Qb ?_
  refine QzK [(1, _), (4, _), (8, _)] [] (fun kk E m => ∃ (i : Nat) (w : Value) (oz : Option Blk), kk = (t + 1) - i ∧ E = [(5, w), (9, ii i)] ∧ m = [(50, oz)] ∧ (i ≤ (t + 1)) ∧ (OwnS 3 1 w (plcU k i).length ((plcU k i).map (fun x : Nat => ii x)) oz.toList)) ⟨0, nilS, none, rfl, rfl, rfl, by omega, (own_nil _ _)⟩ ⟨rfl, rfl, rfl, rfl, rfl, trivial⟩ ⟨rfl, trivial⟩ ?_
  rintro kk E m ⟨i, w, oz, rfl, rfl, rfl, hf0_0, hf0_1⟩
  simp only [catE, catL]
  have hul := plcU_len k i
  have hdv : k / 2 ^ i ≤ 15 := Nat.le_trans (Nat.div_le_self _ _) hm
  refine Qs<|Qp<|(Ql)<|Qn<|Qs ?_
  refine e_cond rfl ?_ ?_
  · intro hc0
    have hc0 : i < (t + 1) := by have := of_decide_eq_true hc0; omega
    refine Qk<|Qs<|Qb<|Qs<|Qp<|(Qm)<|(Qa)<|Qn<|Qs<|Qp<|(Qm)<|(Qm) ?_
    refine e_shr_i rfl rfl rfl (by omega) ?_
    refine e_and1 hdv rfl rfl rfl ?_
    refine (Qc)<|Qn ?_
    refine e_cond rfl ?_ ?_
    · intro hc1
      have hc1 : k / 2 ^ i % 2 = 1 := by have := of_decide_eq_true hc1; omega
      refine Qp<|(Qm)<|(Qm) ?_
      refine e_buildSl 0 #[ii i] (Uu 25 rfl) (Uz 3 rfl) (Ub 3 rfl) (by decide) (by decide) rfl (by kernel_rfl) rfl fun r1 => ?_
      refine e_append 50 hf0_1 (shows_new _ _ (by rfl)) rfl (seen1 0 rfl ⟨[], trivial⟩) (Uu 25) (Uz 3) (Uy 3) (Ub 3) (by rfl) rfl rfl (one_ii i) (by simp only [maxLen]; omega) (by omega) rfl fun v3_1 oz3_1 ho3_1 => ?_
      refine (Qa)<|Qn<|Qp<|(Q2 1)<|(Qm)<|Qn ?_
      refine QzL ⟨i + 1, _, _, rfl, rfl, rfl, by omega, (by first | exact own_fix ho3_1 (by rw [plcU_yes hc1, List.length_append]; rfl) (by rw [plcU_yes hc1, List.map_append]; rfl) | exact own_fix hf0_1 (by rw [plcU_no hc1]) (by rw [plcU_no hc1]))⟩ ⟨rfl, rfl, rfl, rfl, rfl, trivial⟩ ⟨rfl, trivial⟩ ?_
      omega
    · intro hc1
      have hc1 : ¬ k / 2 ^ i % 2 = 1 := by have := of_decide_eq_false hc1; omega
      refine Qk<|Qp<|(Q2 1)<|(Qm)<|Qn ?_
      refine QzL ⟨i + 1, _, _, rfl, rfl, rfl, by omega, (by first | exact own_fix ho3_1 (by rw [plcU_yes hc1, List.length_append]; rfl) (by rw [plcU_yes hc1, List.map_append]; rfl) | exact own_fix hf0_1 (by rw [plcU_no hc1]) (by rw [plcU_no hc1]))⟩ ⟨rfl, rfl, rfl, rfl, rfl, trivial⟩ ⟨rfl, trivial⟩ ?_
      omega
  · intro hc0
    have hc0 := of_decide_eq_false hc0
    have hz0 : i = (t + 1) := by omega
    refine Qe<|Qs<|Qp<|(Qm)<|(Qa)<|Qn<|Qr ?_
    exact ⟨_, _, _, 50, rfl, .tmp rfl, (own_fix hf0_1 (by rw [hz0]) (by rw [hz0])), rfl⟩
set_option maxHeartbeats 4000000 in
theorem patternOfI_fn (DG : Mem) (zn zm : Int) (hW : ∀ (G : Mem) (v : Value) (l : List Nat) (ps : List Int), (∀ b ∈ l, b < 256) → ps.length ≤ 1000000 → Shows (DG ++ G) 1 v ps.length (ps.map iv) → (pwith l ps).1 = 0 → Fx Tryz.prog (DG ++ G) [] 48 #[sv l, v] (fun w l1 nw => l1 = [] ∧ ∃ w', w = .tuple #[w', ii 0] ∧ PatIsI l (decide (l = nXF)) ps (wq l ps 0) (wq l ps 1) (wt l ps) w' nw)) : Fx Tryz.prog ((⟨0, (nm6.map sv).toArray, 86⟩ : Blk) :: (DG ++ G)) [] 16 #[.int .i64 zn, .int .i64 zm] (fun w l1 nw => l1 = [] ∧ ∃ w', w = .tuple #[w', .bool true] ∧ PatIs2 (nmK (pkn zn 6)) (decide ((nmK (pkn zn 6)) = nXF)) (psK (pkn zn 6) (pkn zm 16)) (wq (nmK (pkn zn 6)) (ci (psK (pkn zn 6) (pkn zm 16))) 0) (wq (nmK (pkn zn 6)) (ci (psK (pkn zn 6) (pkn zm 16))) 1) (wt (nmK (pkn zn 6)) (ci (psK (pkn zn 6) (pkn zm 16)))) w' nw) := by
  have hk := pkn_lt zn (m := 6) (by decide)
  have hj := pkn_lt zm (m := 16) (by decide)
  obtain ⟨hb1, hb2, hb3, hb4⟩ := base_ok _ hk
  have hwa := with_all _ hk _ hj
  refine fxD2 (n := 44) Tryz.func16 rfl rfl (by simp) (argE [.int .i64 zn, .int .i64 zm] 0) (argE_ok _) ?_
  refine Qs<|Qp<|(QH 0) fun r1=>(Qa)<|Qn<|Qs<|Qp<|(Qm) ?_
  refine e_call rfl (Un 23) (picked_fn zn 6 (by decide) (by decide)) rfl rfl ?_
  refine e_index0 (Uu 86) (Uz 9) rfl rfl hk rfl ?_
  refine e_load1g (i := 0) (Uu 9) rfl rfl rfl (nm6_at hk) rfl ?_
  refine (Qa)<|Qn<|Qs<|QR ⟨[], 4, [], none⟩<|(Qm) ?_
  refine e_callD [(0, _)] (by repeat (first | exact bag_nil | exact bag_lab _ | apply bag_skip rfl)) ⟨rfl, trivial⟩ rfl rfl rfl (Un 48) (seen_sub (fun x hx => List.mem_cons_of_mem _ hx)) (hW G nilS (nmK (pkn zn 6)) [] hb4 (by simp) (.inl ⟨rfl, rfl, none, 0, rfl, fun _ => rfl⟩) hb1) (pat_roomI (nmK (pkn zn 6)) (decide ((nmK (pkn zn 6)) = nXF)) [] (wq (nmK (pkn zn 6)) [] 0) (wq (nmK (pkn zn 6)) [] 1) (wt (nmK (pkn zn 6)) [])) rfl rfl fun v1_1 nw1_1 hD1_1 => ?_
  simp only [catL]
  obtain ⟨_, rfl, vp1, hp1, va1, vb1, vt1, tv1, rfl, ha1, hb1', ht1, hn1, hl1⟩ := hD1_1
  refine (Qm)<|(Qx)<|(Qx)<|(QH 1) fun r2=>?_
  refine e_storeA (i := 1) (Uz 29) rfl rfl (arrv_size _ _) (catOkP (shows_oneC hp1) (shows_oneC ha1) (shows_oneC hb1') (shows_oneC ht1)) rfl cells_sz (.inl rfl) ?_
  refine (Qa)<|Qn<|Qs<|(Qq ⟨[], 4, [], none⟩)<|(Qm)<|(Qf 5)<|(QV 5 1)<|(QC ht1) ?_
  refine e_as (show _ = ii (tnK (pkn zn 6)) from rfl) ?_
  refine (Qm) ?_
  refine e_call rfl (Un 23) (picked_fn zm 16 (by decide) (by decide)) rfl rfl ?_
  refine e_callN 2 (fun v => v) rfl rfl (Un 49) seenG (places_fn (tnK (pkn zn 6)) (pkn zm 16) (by omega) (by omega)) (by have := plc_len (tnK (pkn zn 6)) (pkn zm 16); simp only [maxLen]; omega) (by rw [List.length_map, Nat.mul_one]) rfl rfl fun v1_2 oz1_2 ho1_2 => ?_
  refine e_callD [(0, _), (1, _), (2, _)] (by repeat (first | exact bag_nil | exact bag_lab _ | apply bag_skip rfl)) ⟨rfl, rfl, rfl, trivial⟩ rfl rfl rfl (Un 48) (seen_app (seen_sub (fun x hx => List.mem_cons_of_mem _ (List.mem_append_left _ hx))) (seenM 2 rfl ⟨[], trivial⟩)) (hW oz1_2.toList v1_2 (nmK (pkn zn 6)) (ci (psK (pkn zn 6) (pkn zm 16))) hb4 (by have := psK_len (pkn zn 6) (pkn zm 16); simp only [ci, List.length_map]; omega) (by rw [ci_ii, show (ci (psK (pkn zn 6) (pkn zm 16))).length = (psK (pkn zn 6) (pkn zm 16)).length by simp [ci]]; exact ho1_2.shows.mono (fun x hx => List.mem_append_right _ hx)) hwa) (pat_roomI (nmK (pkn zn 6)) (decide ((nmK (pkn zn 6)) = nXF)) (ci (psK (pkn zn 6) (pkn zm 16))) (wq (nmK (pkn zn 6)) (ci (psK (pkn zn 6) (pkn zm 16))) 0) (wq (nmK (pkn zn 6)) (ci (psK (pkn zn 6) (pkn zm 16))) 1) (wt (nmK (pkn zn 6)) (ci (psK (pkn zn 6) (pkn zm 16))))) rfl rfl fun v1_3 nw1_3 hD1_3 => ?_
  simp only [catL]
  obtain ⟨_, rfl, vp2, hp2, va2, vb2, vt2, tv2, rfl, ha2, hb2', ht2, hn2, hl2⟩ := hD1_3
  refine (Qm)<|(Qx)<|(Qx)<|(QH 3) fun r4=>?_
  refine e_storeA (i := 3) (Uz 29) rfl rfl (arrv_size _ _) (catOkP (shows_oneC hp2) (shows_oneC ha2) (shows_oneC hb2') (shows_oneC ht2)) rfl cells_sz (.inl rfl) ?_
  refine (Qa)<|Qn<|Qs<|(Qq ⟨[r1], 1, [], none⟩) ?_
  refine e_loadA (i := 3) (Uu 29) rfl (Uz 29) rfl rfl (arrv_size _ _) rfl ⟨[0], rfl, rfl, trivial⟩ ?_
  refine e_freeze 2 [(0, _), (1, _), (3, _)] rfl rfl (by repeat (first | exact bag_nil | exact bag_lab _ | apply bag_skip rfl)) ⟨rfl, rfl, rfl, trivial⟩ rfl rfl ?_
  simp only [catL]
  refine (Qm)<|(Qc)<|(Qar)<|(Qm)<|(Qy)<|(Qm)<|(Qy)<|(Qc)<|(Qar)<|(QT)<|(Qm)<|(Qy)<|(Qf 5)<|(Qy) ?_
  refine e_ldV1 (i := 1) 5 (Uu 27) rfl rfl rfl rfl (by decide) rfl ⟨[0], rfl, rfl, trivial⟩ ?_
  refine (Qy)<|(QC ht1) ?_
  refine e_as (show _ = ii (tnK (pkn zn 6)) from rfl) ?_
  refine (Qy)<|(QE)<|(Qat)<|(QT) ?_
  refine e_storeA (i := 0) (Uz 29) rfl rfl (arrv_size _ _) (catOkP (shows_oneC hp2) (shows_oneC ha2) (shows_oneC hb2') (shows_oneC ht2)) rfl cells_sz (.inr (by simp)) ?_
  refine (Qa)<|Qn<|Qr ?_
  exact ⟨_, _, _, ((([] ++ nw1_1) ++ nw1_3) ++ oz1_2.toList), rfl, .cell (i := 0) rfl rfl (Uu 29) rfl (Uz 29) (arrv_size _ _), .tmp rfl, (pat_two (patI_mono ⟨vp2, hp2, va2, vb2, vt2, tv2, rfl, ha2, hb2', ht2, hn2, hl2⟩ (fun x hx => List.mem_append_left _ (List.mem_append_right _ hx)))), (by repeat (first | exact bag_nil | exact bag_lab _ | apply bag_skip rfl))⟩
end Go.Proofs.YthljakcegoohlaaGreatDoor
namespace Go.Proofs.YthljakcegoohlaaGreatDoor
open Go Go.RowKit
variable {G : Mem}
set_option maxHeartbeats 400000 in
theorem dequal_fn (va vb : Value) (a b : List Int) (ha : Shows G 1 va a.length (a.map iv)) (hb : Shows G 1 vb b.length (b.map iv)) (hz : a.length ≤ 9223372036854775807) : Fn Tryz.prog G 173 #[va, vb] (.bool (decide (a = b))) := by
  refine Qf1 Tryz.func173 ?_
  refine Qs<|Qp<|(Qa)<|Qn<|Qs<|Qs<|Qp<|(Qm)<|(QC ha)<|(Qm)<|(QC hb)<|(QN)<|Qn ?_
  refine e_cond rfl ?_ ?_
  · intro hc0
    have hne := of_decide_eq_true hc0
    refine Qs<|Qp<|(Qa)<|Qn<|Qr ?_
    first | rw [show decide (a = b) = false from decide_eq_false (fun h => hne (by rw [h]))] | rw [show decide (a = b) = false from decide_eq_false (fun h => hq (by rw [h]))] | rw [show decide (a = b) = true from decide_eq_true (ints_ext hlen (fun j hj => hf0_1 j (by omega)))]
    exact ⟨_, rfl, .tmp rfl⟩
  · intro hc0
    have hlen : a.length = b.length := by have := of_decide_eq_false hc0; omega
    refine Qk<|Qs<|Qs<|Qp<|(Qm)<|(QC ha)<|(Qm)<|Qn<|Qb ?_
    refine QzK [(0, _), (1, _), (12, _)] [] (fun kk E m => ∃ (i : Nat), kk = a.length - i ∧ E = [(13, ii i)] ∧ m = [] ∧ (i ≤ a.length) ∧ (∀ j, j < i → a.getD j 0 = b.getD j 0) ∧ (a.length = b.length)) ⟨0, rfl, rfl, rfl, by omega, fun j hj => absurd hj (Nat.not_lt_zero j), hlen⟩ ⟨rfl, rfl, rfl, rfl, trivial⟩ trivial ?_
    rintro kk E m ⟨i, rfl, rfl, rfl, hf0_0, hf0_1, hf0_2⟩
    simp only [catE, catL]
    refine Qs<|Qp<|(Ql)<|Qn<|Qs ?_
    refine e_cond rfl ?_ ?_
    · intro hc1
      have hc1 : i < a.length := by have := of_decide_eq_true hc1; omega
      refine Qk<|Qs<|Qb<|Qs<|Qp<|(Qm)<|(Qa)<|Qn<|Qs<|(Qg)<|(Qm)<|(Qm) ?_
      refine e_atV ha (Uu 25) (Uz 3) rfl rfl (by omega) rfl ?_
      refine (QS) ?_
      refine e_loadV ha seenG (Uu 3) rfl rfl (iv_at (by omega)) rfl ?_
      refine (Qm)<|(Qm) ?_
      refine e_atV hb (Uu 25) (Uz 3) rfl rfl (by omega) rfl ?_
      refine (QS) ?_
      refine e_loadV hb seenG (Uu 3) rfl rfl (iv_at (by omega)) rfl ?_
      refine (QN)<|Qn ?_
      refine e_cond rfl ?_ ?_
      · intro hc2
        have hq := of_decide_eq_true hc2
        refine Qs<|Qp<|(Qa)<|Qn<|Qr ?_
        first | rw [show decide (a = b) = false from decide_eq_false (fun h => hne (by rw [h]))] | rw [show decide (a = b) = false from decide_eq_false (fun h => hq (by rw [h]))] | rw [show decide (a = b) = true from decide_eq_true (ints_ext hlen (fun j hj => hf0_1 j (by omega)))]
        exact ⟨_, rfl, .tmp rfl⟩
      · intro hc2
        have hq : a.getD i 0 = b.getD i 0 := by have := of_decide_eq_false hc2; omega
        refine Qk<|Qp<|(Q2 1)<|(Qm)<|Qn ?_
        refine QzL ⟨i + 1, rfl, rfl, rfl, by omega, fun j hj => by rcases (by omega : j < i ∨ j = i) with h | rfl; exact hf0_1 j h; exact hq, hlen⟩ ⟨rfl, rfl, rfl, rfl, trivial⟩ trivial ?_
        omega
    · intro hc1
      have hc1 := of_decide_eq_false hc1
      have hz0 : i = a.length := by omega
      refine Qe<|Qs<|Qp<|(Qa)<|Qn<|Qr ?_
      first | rw [show decide (a = b) = false from decide_eq_false (fun h => hne (by rw [h]))] | rw [show decide (a = b) = false from decide_eq_false (fun h => hq (by rw [h]))] | rw [show decide (a = b) = true from decide_eq_true (ints_ext hlen (fun j hj => hf0_1 j (by omega)))]
      exact ⟨_, rfl, .tmp rfl⟩
set_option maxHeartbeats 2000000 in
theorem deqf_fn (va vb : Value) (vs us : List Value) (la lb : List (List Int)) (ha : Shows G 1 va vs.length vs) (hb : Shows G 1 vb us.length us) (hLa : ShowsLI G vs la) (hLb : ShowsLI G us lb) (hz : vs.length ≤ 9223372036854775807 ∧ ∀ l ∈ la, l.length ≤ 9223372036854775807) : Fn Tryz.prog G 172 #[va, vb, .func (.func 173) #[] #[]] (.bool (decide (la = lb))) := by
  have hla := hLa.1
  have hlb := hLb.1
  have hzv := hz.1
  refine Qf1 Tryz.func172 ?_
  refine Qs<|Qp<|(Qa)<|Qn<|Qs<|Qs<|Qp<|(Qm)<|(QC ha)<|(Qm)<|(QC hb)<|(QN)<|Qn ?_
  refine e_cond rfl ?_ ?_
  · intro hc0
    have hne := of_decide_eq_true hc0
    refine Qs<|Qp<|(Qa)<|Qn<|Qr ?_
    first | rw [show decide (la = lb) = false from decide_eq_false (fun h => hne (by rw [hla, hlb, h]))] | rw [show decide (la = lb) = false from decide_eq_false (fun h => hq (by rw [h]))] | rw [show decide (la = lb) = true from decide_eq_true (lists_ext (by omega) (fun j hj => hf0_1 j (by omega)))]
    exact ⟨_, rfl, .tmp rfl⟩
  · intro hc0
    have hlen : vs.length = us.length := by have := of_decide_eq_false hc0; omega
    refine Qk<|Qs<|Qs<|Qp<|(Qm)<|(QC ha)<|(Qm)<|Qn<|Qb ?_
    refine QzK [(1, _), (2, _), (15, _), (16, _)] [] (fun kk E m => ∃ (i : Nat), kk = vs.length - i ∧ E = [(17, ii i)] ∧ m = [] ∧ (i ≤ vs.length) ∧ (∀ j, j < i → la.getD j [] = lb.getD j []) ∧ (vs.length = us.length)) ⟨0, rfl, rfl, rfl, by omega, fun j hj => absurd hj (Nat.not_lt_zero j), hlen⟩ ⟨rfl, rfl, rfl, rfl, rfl, trivial⟩ trivial ?_
    rintro kk E m ⟨i, rfl, rfl, rfl, hf0_0, hf0_1, hf0_2⟩
    simp only [catE, catL]
    refine Qs<|Qp<|(Ql)<|Qn<|Qs ?_
    refine e_cond rfl ?_ ?_
    · intro hc1
      have hc1 : i < vs.length := by have := of_decide_eq_true hc1; omega
      refine Qk<|Qs<|Qb<|Qs<|Qp<|(Qm) ?_
      refine e_atV ha (Uu 27) (Uz 25) rfl rfl (by omega) rfl ?_
      refine (QS) ?_
      refine e_loadV ha seenG (Uu 25) rfl rfl (get_getD (by omega)) rfl ?_
      refine (Qa)<|(Qa)<|Qn<|Qs<|Qp<|(Qm)<|(Qm) ?_
      refine e_atV hb (Uu 27) (Uz 25) rfl rfl (by omega) rfl ?_
      refine (QS) ?_
      refine e_loadV hb seenG (Uu 25) rfl rfl (get_getD (by omega)) rfl ?_
      refine (Qa)<|Qn<|Qs<|Qp<|(Qm)<|(Qm)<|(Qm) ?_
      refine e_callS rfl rfl (Un 173) seenG (dequal_fn _ _ (la.getD i []) (lb.getD i []) (hLa.2 i (by omega)) (hLb.2 i (by omega)) (lt_all hz.2 i)) rfl rfl ?_
      refine (Q0)<|Qn ?_
      refine e_cond rfl ?_ ?_
      · intro hc2
        have hq : ¬ la.getD i [] = lb.getD i [] := by simpa using hc2
        refine Qs<|Qp<|(Qa)<|Qn<|Qr ?_
        first | rw [show decide (la = lb) = false from decide_eq_false (fun h => hne (by rw [hla, hlb, h]))] | rw [show decide (la = lb) = false from decide_eq_false (fun h => hq (by rw [h]))] | rw [show decide (la = lb) = true from decide_eq_true (lists_ext (by omega) (fun j hj => hf0_1 j (by omega)))]
        exact ⟨_, rfl, .tmp rfl⟩
      · intro hc2
        have hq : la.getD i [] = lb.getD i [] := by simpa using hc2
        refine Qk<|Qp<|(Q2 1)<|(Qm)<|Qn ?_
        refine QzL ⟨i + 1, rfl, rfl, rfl, by omega, fun j hj => by rcases (by omega : j < i ∨ j = i) with h | rfl; exact hf0_1 j h; exact hq, hlen⟩ ⟨rfl, rfl, rfl, rfl, rfl, trivial⟩ trivial ?_
        omega
    · intro hc1
      have hc1 := of_decide_eq_false hc1
      have hz0 : i = vs.length := by omega
      refine Qe<|Qs<|Qp<|(Qa)<|Qn<|Qr ?_
      first | rw [show decide (la = lb) = false from decide_eq_false (fun h => hne (by rw [hla, hlb, h]))] | rw [show decide (la = lb) = false from decide_eq_false (fun h => hq (by rw [h]))] | rw [show decide (la = lb) = true from decide_eq_true (lists_ext (by omega) (fun j hj => hf0_1 j (by omega)))]
      exact ⟨_, rfl, .tmp rfl⟩
set_option maxHeartbeats 400000 in
theorem dall_fn (va vb : Value) (vs us : List Value) (la lb : List (List Int)) (ha : Shows G 1 va vs.length vs) (hb : Shows G 1 vb us.length us) (hLa : ShowsLI G vs la) (hLb : ShowsLI G us lb) (hz : vs.length ≤ 9223372036854775807 ∧ ∀ l ∈ la, l.length ≤ 9223372036854775807) : Fn Tryz.prog G 126 #[va, vb] (.bool (decide (la = lb))) := by
  refine Qf1 Tryz.func126 ?_
  refine Qs<|Qp<|(Qa)<|Qn<|Qs<|Qp<|(Qm)<|(Qm) ?_
  refine e_call rfl (Un 172) (deqf_fn va vb vs us la lb ha hb hLa hLb hz) rfl rfl ?_
  refine (Qa)<|Qn<|Qr ?_
  exact ⟨_, rfl, .tmp rfl⟩
end Go.Proofs.YthljakcegoohlaaGreatDoor
namespace Go.Proofs.YthljakcegoohlaaGreatDoor
open Go Go.RowKit
variable {G : Mem}
set_option maxHeartbeats 4000000 in
theorem alike_fn (ba : List Nat) (la : Bool) (vpa v0a v1a vta : Value) (tva : List Value) (pa q0a q1a : List Int) (ta : List (List Int)) (_hbaz : ∀ x ∈ ba, x < 256) (hva : Shows G 1 vta tva.length tva) (hLa : ShowsLI G (vpa :: v0a :: v1a :: tva) (pa :: q0a :: q1a :: ta)) (bb : List Nat) (lb : Bool) (vpb v0b v1b vtb : Value) (tvb : List Value) (pb q0b q1b : List Int) (tb : List (List Int)) (_hbbz : ∀ x ∈ bb, x < 256) (hvb : Shows G 1 vtb tvb.length tvb) (hLb : ShowsLI G (vpb :: v0b :: v1b :: tvb) (pb :: q0b :: q1b :: tb)) (hza : ta.length ≤ 9223372036854775807 ∧ ∀ l ∈ pa :: q0a :: q1a :: ta, l.length ≤ 9223372036854775807) : Fn Tryz.prog G 79 #[.agg (patC ba la vpa v0a v1a vta), .agg (patC bb lb vpb v0b v1b vtb)] (.bool ((la == lb) && decide ([q0a, q1a] = [q0b, q1b]) && decide (ta = tb))) := by
  have hTa := li_tail (li_tail (li_tail hLa))
  have hTb := li_tail (li_tail (li_tail hLb))
  refine Qf1 Tryz.func79 ?_
  refine Qs<|Qp<|(Qh 0) fun r1=>(Qh 1) fun r2=>(Qa)<|Qn<|Qs<|(Qg) ?_
  refine e_join [(0, _), (1, _), (2, _), (3, _)] [(4, .bool ((la == lb) && decide ([q0a, q1a] = [q0b, q1b]) && decide (ta = tb)))] [(0, some _), (1, some _)] ⟨rfl, rfl, rfl, rfl, trivial⟩ ⟨rfl, rfl, trivial⟩ ?_ ?_
  · skip
    refine (Qf 1)<|(QV 1 0)<|(Qf 1)<|(QV 1 1) ?_
    refine e_eqB (Uu 4) rfl rfl rfl ?_
    refine (Qm) ?_
    refine e_case (b := (la == lb)) (fun hb0 => ?_) (fun hb0 => ?_)
    · skip
      refine (Qy)<|(Qf 3)<|(Qy) ?_
      refine e_sliceA 0 2 (Uu 26) (Uz 25) rfl rfl rfl rfl rfl (by omega) (by omega) (by omega) rfl ?_
      refine (Qy)<|(Qf 3)<|(Qy) ?_
      refine e_sliceA 0 2 (Uu 26) (Uz 25) rfl rfl rfl rfl rfl (by omega) (by omega) (by omega) rfl ?_
      refine (Qy) ?_
      refine e_callS rfl rfl (Un 126) (seen_app (seen1 0 rfl ⟨[], trivial⟩) (seen_app (seen1 1 rfl ⟨[], trivial⟩) seenG)) (dall_fn (G := ((⟨r1, patC ba la vpa v0a v1a vta, 29⟩ : Blk) :: (⟨r2, patC bb lb vpb v0b v1b vtb, 29⟩ : Blk) :: G)) _ _ [v0a, v1a] [v0b, v1b] [q0a, q1a] [q0b, q1b] (pre_two.mono (fun x hx => List.mem_cons.2 (.inl (List.mem_singleton.1 hx)))) (pre_two.mono (fun x hx => List.mem_cons_of_mem _ (List.mem_cons.2 (.inl (List.mem_singleton.1 hx))))) (li_mono (li_two (li_tail hLa)) (fun x hx => List.mem_cons_of_mem _ (List.mem_cons_of_mem _ hx))) (li_mono (li_two (li_tail hLb)) (fun x hx => List.mem_cons_of_mem _ (List.mem_cons_of_mem _ hx))) ⟨by simp, fun l hl => hza.2 l (by simp only [List.mem_cons, List.not_mem_nil, or_false] at hl ⊢; rcases hl with rfl | rfl <;> simp)⟩) rfl rfl ?_
      refine (QT)<|(Qm) ?_
      refine e_case (b := decide ([q0a, q1a] = [q0b, q1b])) (fun hb1 => ?_) (fun hb1 => ?_)
      · skip
        refine (Qy)<|(Qf 5)<|(Qy)<|(QV 5 0)<|(Qy)<|(Qf 5)<|(Qy)<|(QV 5 1)<|(Qy) ?_
        refine e_call rfl (Un 126) (dall_fn vta vtb tva tvb ta tb hva hvb hTa hTb ⟨by have := hTa.1; have := hza.1; omega, fun l hl => hza.2 l (by simp [hl])⟩) rfl rfl ?_
        refine (QT)<|(Qa)<|Qn ?_
        exact ⟨⟨rfl, rfl, rfl, rfl, trivial⟩, ⟨bool_fin (by rw [hb0, hb1] <;> rfl), trivial⟩, ⟨rfl, rfl, trivial⟩⟩
      · skip
        refine (Qo)<|(Qo)<|(Qo)<|(Qo)<|(Qo)<|(QF)<|(Qa)<|Qn ?_
        exact ⟨⟨rfl, rfl, rfl, rfl, trivial⟩, ⟨bool_fin (by rw [hb0, hb1] <;> rfl), trivial⟩, ⟨rfl, rfl, trivial⟩⟩
    · skip
      refine (Qo)<|(Qo)<|(Qo)<|(Qo)<|(Qo)<|(QF)<|(Qm)<|(Qo)<|(Qo)<|(Qo)<|(Qo)<|(Qo)<|(QF)<|(Qa)<|Qn ?_
      exact ⟨⟨rfl, rfl, rfl, rfl, trivial⟩, ⟨bool_fin (by rw [hb0] <;> rfl), trivial⟩, ⟨rfl, rfl, trivial⟩⟩
  · simp only [catE]
    refine Qr ?_
    exact ⟨_, rfl, .tmp rfl⟩
end Go.Proofs.YthljakcegoohlaaGreatDoor
namespace Go.Proofs.YthljakcegoohlaaGreatDoor
open Go Go.RowKit
variable {G : Mem}
set_option maxHeartbeats 400000 in
theorem small_fn (z : Nat) (hz : z ≤ 9) : Fn Tryz.prog G 252 #[ii z] (sv [48 + z]) := by
  refine Qf1 Tryz.func252 ?_
  refine Qs<|Qp ?_
  refine e_assign (v := sv []) rfl rfl ?_
  refine Qn<|Qs<|Qs<|Qp<|(Qm)<|(Ql)<|(Qat)<|Qn<|(Qct)<|Qs<|Qp<|(Qm)<|(Qm)<|(Q2 1) ?_
  refine e_sliceStr z (z + 1) (l := [48, 49, 50, 51, 52, 53, 54, 55, 56, 57, 97, 98, 99, 100, 101, 102, 103, 104, 105, 106, 107, 108, 109, 110, 111, 112, 113, 114, 115, 116, 117, 118, 119, 120, 121, 122]) (Uu 9) rfl rfl rfl ⟨_, rfl⟩ ⟨_, rfl⟩ (by omega) (by simp only [List.length_cons, List.length_nil]; omega) rfl ?_
  refine e_as (congrArg sv (dig_at hz)) ?_
  refine (Qa)<|Qn<|Qr ?_
  exact ⟨_, rfl, .tmp rfl⟩
set_option maxHeartbeats 400000 in
theorem fmtint_fn (z : Nat) (hz : z ≤ 9) : Fn Tryz.prog G 224 #[ii z, ii 10] (sv [48 + z]) := by
  refine Qf1 Tryz.func224 ?_
  refine Qs<|Qp ?_
  refine e_assign (v := sv []) rfl rfl ?_
  refine Qn<|Qs<|Qs<|Qp<|(Qm)<|(Qc)<|(Qat)<|Qn<|(Qct)<|Qs<|Qs<|Qp<|(Qm)<|(QL)<|(Qat)<|(Qm)<|(Qy)<|(Qm)<|(Qy)<|(Ql)<|(Qat)<|(QT)<|Qn<|(Qct)<|Qs<|Qp<|(Qm) ?_
  refine e_call rfl (Un 252) (small_fn z hz) rfl rfl ?_
  refine (Qa)<|Qn<|Qr ?_
  exact ⟨_, rfl, .tmp rfl⟩
set_option maxHeartbeats 400000 in
theorem litoa_fn (z : Nat) (hz : z ≤ 9) : Fn Tryz.prog G 174 #[ii z] (sv [48 + z]) := by
  refine Qf1 Tryz.func174 ?_
  refine Qs<|Qp ?_
  refine e_assign (v := sv []) rfl rfl ?_
  refine Qn<|Qs<|Qp<|(Qm) ?_
  refine e_call rfl (Un 224) (fmtint_fn z hz) rfl rfl ?_
  refine (Qa)<|Qn<|Qr ?_
  exact ⟨_, rfl, .tmp rfl⟩
set_option maxHeartbeats 400000 in
theorem itoa_fn (z : Nat) (hz : z ≤ 9) : Fn Tryz.prog G 127 #[ii z] (sv [48 + z]) := by
  refine Qf1 Tryz.func127 ?_
  refine Qs<|Qp ?_
  refine e_assign (v := sv []) rfl rfl ?_
  refine Qn<|Qs<|Qp<|(Qm) ?_
  refine e_call rfl (Un 174) (litoa_fn z hz) rfl rfl ?_
  refine (Qa)<|Qn<|Qr ?_
  exact ⟨_, rfl, .tmp rfl⟩
end Go.Proofs.YthljakcegoohlaaGreatDoor
namespace Go.Proofs.YthljakcegoohlaaGreatDoor
open Go Go.RowKit
variable {G : Mem}
set_option maxHeartbeats 4000000 in
theorem joined_fn (b : List Nat) (v : Value) (ps : List Int) (_hb : ∀ x ∈ b, x < 256) (hbl : b.length ≤ 1000) (hv : Shows G 1 v ps.length (ps.map iv)) (h4 : ps.length ≤ 4) (h9 : ∀ i, i < ps.length → 0 ≤ ps.getD i 0 ∧ ps.getD i 0 ≤ 9) : Fn Tryz.prog G 80 #[sv b, v] (sv (pname b ps)) := by
  refine Qf1 Tryz.func80 ?_
  refine Qs<|Qp ?_
  refine e_assign (v := sv []) rfl rfl ?_
  refine Qn<|Qs<|Qp<|(Qa)<|Qn<|Qs<|Qs<|Qp<|(Qm)<|(QC hv)<|(Qm)<|Qn<|Qb ?_
  refine QzK [(0, _), (4, _), (8, _), (9, _)] [] (fun kk E m => ∃ (i : Nat) (w4 : Value) (oz : Option Blk), kk = ps.length - i ∧ E = [(5, w4), (10, ii i)] ∧ m = [(50, oz)] ∧ (i ≤ ps.length) ∧ (OwnS 9 1 w4 ((ps.take i).map pskW).length (((ps.take i).map pskW).map sv) oz.toList)) ⟨0, nilS, none, rfl, rfl, rfl, by omega, (own_fix (own_nil _ _) (by simp) (by simp))⟩ ⟨rfl, rfl, rfl, rfl, rfl, rfl, trivial⟩ ⟨rfl, trivial⟩ ?_
  rintro kk E m ⟨i, w4, oz, rfl, rfl, rfl, hf0_0, hf0_1⟩
  simp only [catE, catL]
  have hjl : ((ps.take i).map pskW).length ≤ 4 := by rw [List.length_map, List.length_take]; omega
  refine Qs<|Qp<|(Ql)<|Qn<|Qs ?_
  refine e_cond rfl ?_ ?_
  · intro hc0
    have hc0 : i < ps.length := by have := of_decide_eq_true hc0; omega
    refine Qk<|Qs<|Qb<|Qs<|Qp ?_
    refine e_atV hv (Uu 25) (Uz 3) rfl rfl (by omega) rfl ?_
    refine (QS) ?_
    obtain ⟨z9, hz9⟩ : ∃ z9 : Nat, ps.getD i 0 = (z9 : Int) := ⟨(ps.getD i 0).toNat, by have := h9 i (by omega); omega⟩
    refine e_loadV hv seenG (Uu 3) rfl rfl (iv_at (by omega)) rfl ?_
    refine e_as (show _ = ii z9 from congrArg (Value.int .i64) hz9) ?_
    refine (Qa)<|Qn ?_
    have hz99 : z9 ≤ 9 := by have := h9 i (by omega); omega
    refine Qp<|(Qm)<|(Qm) ?_
    refine e_call rfl (Un 127) (itoa_fn z9 hz99) rfl rfl ?_
    refine e_catS (l := [112, 115, 107]) rfl rfl rfl (by simp only [List.length_cons, List.length_nil]; omega) ?_
    refine e_as (congrArg sv (show _ = pskW (ps.getD i 0) by rw [pskW, pskD_small (h9 i (by omega)).1 (h9 i (by omega)).2, hz9]; rfl)) ?_
    refine e_buildSl 0 #[sv (pskW (ps.getD i 0))] (Uu 142 rfl) (Uz 9 rfl) (Ub 9 rfl) (by decide) (by decide) rfl (fill1 (by simp) rfl) rfl fun r1 => ?_
    refine e_append 50 hf0_1 (shows_new _ _ (by rfl)) rfl (seen1 0 rfl ⟨[], trivial⟩) (Uu 142) (Uz 9) (Uy 9) (Ub 9) (by rfl) rfl rfl (by intro u hu; simp at hu; subst hu; rfl) (by simp only [maxLen]; omega) (by omega) rfl fun v2_1 oz2_1 ho2_1 => ?_
    refine (Qa)<|Qn<|Qp<|(Q2 1)<|(Qm)<|Qn ?_
    refine QzL ⟨i + 1, _, _, rfl, rfl, rfl, by omega, (own_fix ho2_1 (by rw [psk_next (by omega), List.length_append]; rfl) (by rw [psk_next (by omega), List.map_append]; rfl))⟩ ⟨rfl, rfl, rfl, rfl, rfl, rfl, trivial⟩ ⟨rfl, trivial⟩ ?_
    omega
  · intro hc0
    have hc0 := of_decide_eq_false hc0
    have hz0 : i = ps.length := by omega
    refine Qe<|Qs<|Qp<|(Qm) ?_
    refine e_catS (l := [78, 111, 105, 115, 101, 95]) rfl rfl rfl (by simp only [List.length_cons, List.length_nil]; omega) ?_
    refine (Qm) ?_
    refine e_callS rfl rfl (Un 128) (seenM 50 rfl ⟨[], trivial⟩) (join_fn (G := oz.toList) w4 ((ps.take i).map pskW) hf0_1.shows (by omega) (by rw [hz0, List.take_length, join_all]; have := pmd_len ps ps.length; omega)) rfl rfl ?_
    refine e_as (congrArg sv (show joinL 43 ((ps.take i).map pskW) = pmd ps ps.length by rw [hz0, List.take_length, join_all])) ?_
    refine e_catS rfl rfl rfl (by have := pmd_len ps ps.length; simp only [List.length_append, List.length_cons, List.length_nil]; omega) ?_
    refine e_catS (k := [95, 50, 53, 53, 49, 57, 95, 67, 104, 97, 67, 104, 97, 80, 111, 108, 121, 95, 66, 76, 65, 75, 69, 50, 115]) rfl rfl rfl (by have := pmd_len ps ps.length; simp only [List.length_append, List.length_cons, List.length_nil]; omega) ?_
    refine (Qa)<|Qn<|Qr ?_
    rw [show pname b ps = hdN ++ b ++ pmd ps ps.length ++ tlN from rfl]
    exact ⟨_, rfl, .tmp rfl⟩
end Go.Proofs.YthljakcegoohlaaGreatDoor
namespace Go.Proofs.YthljakcegoohlaaGreatDoor
open Go Go.RowKit
variable {G : Mem}
set_option maxHeartbeats 4000000 in
theorem dshow_ok (ba : List Nat) (la : Bool) (vpa v0a v1a vta : Value) (tva : List Value) (pa q0a q1a : List Int) (ta : List (List Int)) (hbaz : ∀ x ∈ ba, x < 256) (hva : Shows G 1 vta tva.length tva) (hLa : ShowsLI G (vpa :: v0a :: v1a :: tva) (pa :: q0a :: q1a :: ta)) (hza : ta.length ≤ 9223372036854775807 ∧ ∀ l ∈ pa :: q0a :: q1a :: ta, l.length ≤ 9223372036854775807) (hp9 : pa.length ≤ 9223372036854775807) (he : (pwith ba pa).1 = 0) (hs : sameP ba ba la (decide (ba = nXF)) pa pa q0a (ci (wq ba pa 0)) q1a (ci (wq ba pa 1)) ta ((wt ba pa).map ci) = true) : Fn Tryz.prog G 50 #[.agg (patC ba la vpa v0a v1a vta)] (.tuple #[sv (pname ba pa), ii 0]) := by
  obtain ⟨ha0, ha1, ha2, ha3, ha4⟩ := li_three hLa
  obtain ⟨hw0, hw4, hw1⟩ := pwith_in he
  have hpc := pchk_bound (show pchk ((pbase ba).length - 2) pa = 0 by rw [← pwith_pchk hw0]; exact he)
  obtain ⟨_, hpb5, _⟩ := pbase_ok hw0
  have hs2 := (sameQ ba pa la (decide (ba = nXF)) q0a (ci (wq ba pa 0)) q1a (ci (wq ba pa 1)) ta ((wt ba pa).map ci)).trans hs
  refine Qf2 Tryz.func50 ?_
  refine Qs<|Qp<|(Qh 0) fun r1=>?_
  refine e_assign (v := sv []) rfl rfl ?_
  refine (Qa)<|Qn<|Qs<|QR ⟨[], 4, [], none⟩<|(Qf 0)<|(QV 0 0)<|(Qf 2)<|(QV 2 0) ?_
  refine e_callD [(0, _)] (by repeat (first | exact bag_nil | exact bag_lab _ | apply bag_skip rfl)) ⟨rfl, trivial⟩ rfl rfl rfl (Un 48) seenG (dwith_ok ba vpa pa hbaz ha0 hp9 he) (pat_roomI ba (decide (ba = nXF)) pa (wq ba pa 0) (wq ba pa 1) (wt ba pa)) rfl rfl fun v1_1 nw1_1 hD1_1 => ?_
  simp only [catL]
  obtain ⟨_, rfl, vp1, hp1, va1, vb1, vt1, tv1, rfl, ha1', hb1, ht1, hn1, hl1⟩ := hD1_1
  refine (Qm)<|(Qx)<|(Qx)<|(QH 1) fun r2=>?_
  refine e_storeA (i := 1) (Uz 29) rfl rfl (arrv_size _ _) (catOkP (shows_oneC hp1) (shows_oneC ha1') (shows_oneC hb1) (shows_oneC ht1)) rfl cells_sz (.inl rfl) ?_
  refine (Qa)<|Qn<|Qs<|Qs<|Qp<|(Qm)<|(QN) ?_
  refine e_as (congrArg Value.bool (decide_eq_false (by decide))) ?_
  refine Qn<|(Qcf)<|Qk<|Qs<|Qs<|Qp<|(QD 0)<|(QD 1) ?_
  refine e_callS rfl rfl (Un 79) (seen_app seenG (seen_bag (by repeat (first | exact bag_nil | exact bag_lab _ | apply bag_skip rfl)) rfl)) (alike_fn (G := G ++ ([] ++ nw1_1)) ba la vpa v0a v1a vta tva pa q0a q1a ta hbaz (hva.mono (fun x hx => List.mem_append_left _ hx)) (li_mono hLa (fun x hx => List.mem_append_left _ hx)) ba (decide (ba = nXF)) vp1 va1 vb1 vt1 tv1 pa (ci (wq ba pa 0)) (ci (wq ba pa 1)) ((wt ba pa).map ci) hbaz (by rw [hn1]; exact ht1.mono (fun x hx => List.mem_append_right _ (List.mem_append_right _ hx))) (pat_li (hp1.mono (fun x hx => List.mem_append_right _ (List.mem_append_right _ hx))) (ha1'.mono (fun x hx => List.mem_append_right _ (List.mem_append_right _ hx))) (hb1.mono (fun x hx => List.mem_append_right _ (List.mem_append_right _ hx))) (li_mono hl1 (fun x hx => List.mem_append_right _ (List.mem_append_right _ hx)))) hza) rfl rfl ?_
  refine e_as (congrArg Value.bool hs2) ?_
  refine (Q0)<|Qn<|(Qcf)<|Qk<|Qs<|Qp<|(Qf 0)<|(QV 0 1)<|(Qf 2)<|(QV 2 1) ?_
  refine e_callS rfl rfl (Un 80) (seen_bag (by repeat (first | exact bag_nil | exact bag_lab _ | apply bag_skip rfl)) rfl) (joined_fn (G := nw1_1) ba vp1 pa hbaz (by omega) hp1 (by omega) (fun i hi => by have := hpc.2 i hi; omega)) rfl rfl ?_
  refine (Qa)<|(Qa)<|Qn<|Qr ?_
  exact ⟨_, _, rfl, .tmp rfl, .tmp rfl⟩
end Go.Proofs.YthljakcegoohlaaGreatDoor
