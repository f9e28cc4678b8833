import Derived.Test.YtejejmhbhegneaaDoorKW4
namespace Go.Proofs.YtejejmhbhegneaaDoor
open Go Go.RowKit
variable {G : Mem}
set_option maxHeartbeats 2000000 in
theorem chkpl_fn (v : Value) (ps : List Int) (t : Nat) (hv : Shows G 1 v ps.length (ps.map iv)) (hz : ps.length ≤ 9223372036854775807) : Fn Tryd.prog G 20 #[v, ii t] (ii (pchk t ps)) := by
  refine Qf1 Tryd.func20 ?_
  refine Qs<|Qp<|(Qa)<|Qn<|Qs<|Qs<|Qp<|(Qm)<|(QC hv)<|(QG)<|Qn ?_
  refine e_cond rfl ?_ ?_
  · intro hc0
    rw [show pchk t ps = 1 by rw [pchk, if_pos (by have := of_decide_eq_true hc0; omega)]]
    refine Qs<|Qp<|(Qa)<|Qn<|Qr ?_
    first | rw [hpc, hf0_1, pck_end hz0] | skip
    exact ⟨_, rfl, .tmp rfl⟩
  · intro hc0
    have hpc : pchk t ps = pck t (-1) ps := by rw [pchk, if_neg (by have := of_decide_eq_false hc0; omega)]
    refine Qk<|Qs<|Qs<|Qp<|(Qm)<|(QC hv)<|(Qm)<|Qn<|Qb ?_
    refine QzK [(0, _), (1, _), (10, _), (11, _)] [] (fun kk E m => ∃ (i : Nat), kk = ps.length - i ∧ E = [(12, ii i)] ∧ m = [] ∧ (i ≤ ps.length) ∧ (pck t (-1) ps = pck t (lastP ps i) (ps.drop i))) ⟨0, rfl, rfl, rfl, by omega, rfl⟩ ⟨rfl, rfl, rfl, rfl, rfl, trivial⟩ trivial ?_
    rintro kk E m ⟨i, rfl, rfl, rfl, hf0_0, hf0_1⟩
    simp only [catE, catL]
    refine Qs<|Qp<|(Ql)<|Qn<|Qs ?_
    refine e_cond rfl ?_ ?_
    · intro hc1
      have hc1 : i < ps.length := by have := of_decide_eq_true hc1; omega
      refine Qk<|Qs<|Qb<|Qs<|Qp<|(Qm) ?_
      refine e_atV hv (Uu 22) (Uz 3) rfl rfl (by omega) rfl ?_
      refine (QS) ?_
      refine e_loadV hv seenG (Uu 3) rfl rfl (iv_at (by omega)) rfl ?_
      refine (Qa)<|(Qa)<|Qn<|Qs<|Qs<|Qp ?_
      refine e_join [(0, _), (1, _), (5, _), (6, _), (10, _), (11, _), (12, _), (13, _), (14, _), (15, _), (16, _)] [(23, .bool (decide ((ps.getD i 0) < 0) || decide ((t : Int) < (ps.getD i 0))))] [] ⟨rfl, rfl, rfl, rfl, rfl, rfl, rfl, rfl, rfl, rfl, rfl, trivial⟩ trivial ?_ ?_
      · skip
        refine (Qm)<|(Ql)<|(Qm) ?_
        refine e_case (b := decide ((ps.getD i 0) < 0)) (fun hb0 => ?_) (fun hb0 => ?_)
        · skip
          refine (Qo)<|(Qo)<|(Qo)<|(QT)<|Qn ?_
          exact ⟨⟨rfl, rfl, rfl, rfl, rfl, rfl, rfl, rfl, rfl, rfl, rfl, trivial⟩, ⟨bool_fin (by rw [hb0] <;> rfl), trivial⟩, trivial⟩
        · skip
          refine (Qy)<|(Qm)<|(Qy)<|(Qm)<|(Qy)<|(QG)<|(QF)<|Qn ?_
          exact ⟨⟨rfl, rfl, rfl, rfl, rfl, rfl, rfl, rfl, rfl, rfl, rfl, trivial⟩, ⟨bool_fin (by rw [hb0] <;> rfl), trivial⟩, trivial⟩
      · simp only [catE]
        refine e_cond rfl ?_ ?_
        · intro hc2
          rw [hpc, hf0_1, pck_range (by omega) (or_true2 hc2)]
          refine Qs<|Qp<|(Qa)<|Qn<|Qr ?_
          first | rw [hpc, hf0_1, pck_end hz0] | skip
          exact ⟨_, rfl, .tmp rfl⟩
        · intro hc2
          have hxr : ¬ ((ps.getD i 0) < 0 ∨ (t : Int) < (ps.getD i 0)) := or_false2 hc2
          refine Qk<|Qs<|Qp ?_
          refine e_join [(0, _), (1, _), (5, _), (6, _), (10, _), (11, _), (12, _), (13, _), (14, _), (15, _), (16, _), (23, _)] [(34, .bool (decide ((0 : Int) < (i : Int)) && decide ((ps.getD i 0) ≤ (ps.getD (i - 1) 0))))] [] ⟨rfl, rfl, rfl, rfl, rfl, rfl, rfl, rfl, rfl, rfl, rfl, rfl, trivial⟩ trivial ?_ ?_
          · skip
            refine (Qm)<|(QG)<|(Qm) ?_
            refine e_case (b := decide ((0 : Int) < (i : Int))) (fun hb1 => ?_) (fun hb1 => ?_)
            · skip
              refine (Qy)<|(Qm)<|(Qy)<|(Qm)<|(Qy)<|(Qm)<|(Qy) ?_
              refine e_sub_in (q := 1) rfl rfl rfl (by omega) (by have := of_decide_eq_true hb1; omega) ?_
              refine (Qy) ?_
              refine e_atV hv (Uu 22) (Uz 3) rfl rfl (by have := of_decide_eq_true hb1; omega) rfl ?_
              refine (QS)<|(Qy) ?_
              refine e_loadV hv seenG (Uu 3) rfl rfl (iv_at (by have := of_decide_eq_true hb1; omega)) rfl ?_
              refine (Qy)<|(QL)<|(QT)<|Qn ?_
              exact ⟨⟨rfl, rfl, rfl, rfl, rfl, rfl, rfl, rfl, rfl, rfl, rfl, rfl, trivial⟩, ⟨bool_fin (by rw [hb1] <;> rfl), trivial⟩, trivial⟩
            · skip
              refine (Qo)<|(Qo)<|(Qo)<|(Qo)<|(Qo)<|(Qo)<|(Qo)<|(QF)<|Qn ?_
              exact ⟨⟨rfl, rfl, rfl, rfl, rfl, rfl, rfl, rfl, rfl, rfl, rfl, rfl, trivial⟩, ⟨bool_fin (by rw [hb1] <;> rfl), trivial⟩, trivial⟩
          · simp only [catE]
            refine e_cond rfl ?_ ?_
            · intro hc3
              rw [hpc, hf0_1, pck_form (by omega) hxr (last_yes hc3)]
              refine Qs<|Qp<|(Qa)<|Qn<|Qr ?_
              first | rw [hpc, hf0_1, pck_end hz0] | skip
              exact ⟨_, rfl, .tmp rfl⟩
            · intro hc3
              have hxl := last_no hxr hc3
              refine Qk<|Qp<|(Q2 1)<|(Qm)<|Qn ?_
              refine QzL ⟨i + 1, rfl, rfl, rfl, by omega, (hf0_1.trans (by rw [pck_step (by omega) hxr hxl, lastP, if_neg (by omega)]; rfl))⟩ ⟨rfl, rfl, rfl, rfl, rfl, trivial⟩ trivial ?_
              omega
    · intro hc1
      have hc1 := of_decide_eq_false hc1
      have hz0 : i = ps.length := by omega
      refine Qe<|Qs<|Qp<|(Qa)<|Qn<|Qr ?_
      first | rw [hpc, hf0_1, pck_end hz0] | skip
      exact ⟨_, rfl, .tmp rfl⟩
set_option maxHeartbeats 2000000 in
theorem putpsk_fn (rT t n : Nat) (TF : Nat → Value) (q : List Nat) (oz : Option Blk) (hR : OwnS 3 1 (TF (n - 1)) q.length (iis q) oz.toList) (ht : n - 1 < t) (hn : n ≤ 100) (hq : q.length ≤ 100) (hne : ∀ z, oz = some z → z.b ≠ rT) : Fx Tryd.prog G (⟨rT, arrv t TF, 22⟩ :: oz.toList) 21 #[slv rT t, ii n] (Two rT 22 oz (fun v c' oz' => v = Value.tuple #[] ∧ ∃ w', c' = arrv t (updv TF (n - 1) w') ∧ OwnS 3 1 w' (insR n q).length (iis (insR n q)) oz'.toList)) := by
  refine fxT0 (n := 24) Tryd.func21 rfl rfl (by simp) (argE [slv rT t, ii n] 0) (argE_ok _) hne ?_
  refine Qs<|Qs<|Qp<|(Qm)<|(Qc)<|Qn ?_
  refine e_cond rfl ?_ ?_
  · intro hc0
    obtain rfl : n = 0 := by have := of_decide_eq_true hc0; omega
    refine Qs<|Qp<|(Qm) ?_
    refine e_buildSl 2 #[ii 7] (Uu 22 rfl) (Uz 3 rfl) (Ub 3 rfl) (by decide) (by decide) rfl (by kernel_rfl) rfl fun r3 => ?_
    refine (Qm) ?_
    refine e_atSl (0) (j := 0) (Uu 24) (Uz 22) rfl rfl (by omega) (by omega) rfl ?_
    refine e_load1 (i := 0) (Uu 22) rfl rfl rfl (arrv_get (by omega)) rfl ⟨[], trivial⟩ ?_
    refine e_append 2 (own_lit 3 r3 [7] (by decide)) hR.shows rfl (seenM 1 rfl ⟨[], trivial⟩) (Uu 22) (Uz 3) (Uy 3) (Ub 3) (by rfl) rfl rfl (iis_one _) (by simp only [maxLen, List.length_cons, List.length_nil]; omega) (by simp only [List.length_cons, List.length_nil]; omega) rfl fun v2_1 oz2_1 ho2_1 => ?_
    refine e_atSl (0) (j := 0) (Uu 24) (Uz 22) rfl rfl (by omega) (by omega) rfl ?_
    refine e_st1 (i := 0) (Uz 22) rfl rfl (shows_oneC ho2_1.shows) rfl (by omega) (.inl rfl) ?_
    refine Qn<|Qr ?_
    exact ⟨rfl, _, _, (by first | exact ⟨rfl, _, rfl, own_fix ho2_1 (by rw [insR_len]; simp only [List.length_cons, List.length_nil]; omega) rfl⟩ | exact ⟨rfl, _, rfl, own_fix ho2_1 (by rw [insR_len]) (by rw [insR, if_neg hn0]; simp [iis])⟩), rfl, (by first | exact .inr ⟨2, _, by decide, by decide, rfl, rfl, rfl⟩ | (rcases hw2_1 with ⟨rfl, hid, rfl⟩ | ⟨rfl, rfl⟩; exact .inl ⟨rfl, hid⟩; exact .inr ⟨3, _, by decide, by decide, rfl, rfl, rfl⟩))⟩
  · intro hc0
    have hn0 : ¬ n = 0 := by have := of_decide_eq_false hc0; omega
    refine Qk<|Qp<|(Qm)<|(Qm) ?_
    refine e_sub_in (q := 1) rfl rfl rfl (by omega) (by omega) ?_
    refine (Qm)<|(Qm) ?_
    refine e_sub_in (q := 1) rfl rfl rfl (by omega) (by omega) ?_
    refine e_atSl (n - 1) (Uu 24) (Uz 22) rfl rfl (by omega) (by omega) rfl ?_
    refine e_load1 (i := 0) (Uu 22) rfl rfl rfl (arrv_get (by omega)) rfl ⟨[], trivial⟩ ?_
    refine e_buildSl 2 #[ii 7] (Uu 22 rfl) (Uz 3 rfl) (Ub 3 rfl) (by decide) (by decide) rfl (by kernel_rfl) rfl fun r3 => ?_
    refine e_append2 1 3 hR (shows_new _ _ (by rfl)) rfl (seen1 2 rfl ⟨[], trivial⟩) (Uu 22) (Uz 3) (Uy 3) (Ub 3) (by rfl) rfl rfl (one_ii 7) (by simp only [maxLen]; omega) (by omega) rfl fun v2_1 oi2_1 oj2_1 oz2_1 ho2_1 hw2_1 => ?_
    refine e_atSl (n - 1) (Uu 24) (Uz 22) rfl rfl (by omega) (by omega) rfl ?_
    refine e_st1 (i := 0) (Uz 22) rfl rfl (shows_oneC ho2_1.shows) rfl (by omega) (.inl rfl) ?_
    refine Qn ?_
    exact ⟨rfl, _, _, (by first | exact ⟨rfl, _, rfl, own_fix ho2_1 (by rw [insR_len]; simp only [List.length_cons, List.length_nil]; omega) rfl⟩ | exact ⟨rfl, _, rfl, own_fix ho2_1 (by rw [insR_len]) (by rw [insR, if_neg hn0]; simp [iis])⟩), rfl, (by first | exact .inr ⟨2, _, by decide, by decide, rfl, rfl, rfl⟩ | (rcases hw2_1 with ⟨rfl, hid, rfl⟩ | ⟨rfl, rfl⟩; exact .inl ⟨rfl, hid⟩; exact .inr ⟨3, _, by decide, by decide, rfl, rfl, rfl⟩))⟩
set_option maxHeartbeats 2000000 in
theorem based_no (l : List Nat) (hl : ∀ b ∈ l, b < 256) (h0 : ptext l = []) : Fn Tryd.prog G 19 #[sv l] (.tuple #[.agg (cells 6 [pV (.string ByteArray.empty), pV (.bool false), pV nilS, pV nilS, pV nilS, pV nilS]), .bool false]) := by
  refine Qf2 Tryd.func19 ?_
  refine Qs<|Qp<|(QH 0) fun r1=>(Qa)<|Qn<|Qs<|Qp<|(QH 1) fun r2=>Qn<|Qs<|Qs<|Qp<|(Qm)<|Qn<|Qb<|Qs<|Qp ?_
  refine e_eqStr (k := [78, 78]) rfl rfl rfl hl (by decide) ?_
  refine (Qa)<|Qn ?_
  refine e_cond rfl ?_ ?_
  · intro hc0
    have hx : l = nNN := of_decide_eq_true hc0
    exact absurd h0 (by rw [hx]; decide)
  · intro hc0
    refine Qs<|Qp ?_
    refine e_eqStr (k := [78, 75]) rfl rfl rfl hl (by decide) ?_
    refine (Qa)<|Qn ?_
    refine e_cond rfl ?_ ?_
    · intro hc1
      have hx : l = nNK := of_decide_eq_true hc1
      exact absurd h0 (by rw [hx]; decide)
    · intro hc1
      refine Qs<|Qp ?_
      refine e_eqStr (k := [88, 88]) rfl rfl rfl hl (by decide) ?_
      refine (Qa)<|Qn ?_
      refine e_cond rfl ?_ ?_
      · intro hc2
        have hx : l = nXX := of_decide_eq_true hc2
        exact absurd h0 (by rw [hx]; decide)
      · intro hc2
        refine Qs<|Qp ?_
        refine e_eqStr (k := [73, 75]) rfl rfl rfl hl (by decide) ?_
        refine (Qa)<|Qn ?_
        refine e_cond rfl ?_ ?_
        · intro hc3
          have hx : l = nIK := of_decide_eq_true hc3
          exact absurd h0 (by rw [hx]; decide)
        · intro hc3
          refine Qs<|Qp ?_
          refine e_eqStr (k := [88, 75]) rfl rfl rfl hl (by decide) ?_
          refine (Qa)<|Qn ?_
          refine e_cond rfl ?_ ?_
          · intro hc4
            have hx : l = nXK := of_decide_eq_true hc4
            exact absurd h0 (by rw [hx]; decide)
          · intro hc4
            refine Qs<|Qp ?_
            refine e_eqStr (k := [75, 75]) rfl rfl rfl hl (by decide) ?_
            refine (Qa)<|Qn ?_
            refine e_cond rfl ?_ ?_
            · intro hc5
              have hx : l = nKK := of_decide_eq_true hc5
              exact absurd h0 (by rw [hx]; decide)
            · intro hc5
              refine Qs<|Qp ?_
              refine e_eqStr (k := [88, 88, 102, 97, 108, 108, 98, 97, 99, 107]) rfl rfl rfl hl (by decide) ?_
              refine (Qa)<|Qn ?_
              refine e_cond rfl ?_ ?_
              · intro hc6
                have hx : l = nXF := of_decide_eq_true hc6
                exact absurd h0 (by rw [hx]; decide)
              · intro hc6
                refine Qs<|Qp ?_
                refine e_buildS (cells 6 [pV (.string ByteArray.empty), pV (.bool false), pV nilS, pV nilS, pV nilS, pV nilS]) (Ub 26 rfl) (Uu 26 rfl) pls26 rfl (by kernel_rfl) rfl ?_
                refine e_storeA (i := 0) (Uz 26) rfl rfl (arrv_size _ _) (cells_one ⟨fun _ => rfl, fun _ => rfl, fun _ => rfl, fun _ => rfl, fun _ => rfl, fun _ => rfl, trivial⟩) rfl cells_sz (.inl rfl) ?_
                refine (Qa)<|Qn<|Qr ?_
                exact ⟨_, _, rfl, .cell (i := 0) rfl rfl (Uu 26) rfl (Uz 26) (arrv_size _ _), .tmp rfl⟩
end Go.Proofs.YtejejmhbhegneaaDoor
namespace Go.Proofs.YtejejmhbhegneaaDoor
open Go Go.RowKit
variable {G : Mem}
set_option maxHeartbeats 4000000 in
theorem based_fn (l : List Nat) (hl : ∀ b ∈ l, b < 256) (h0 : ptext l ≠ []) : Fx Tryd.prog G [] 19 #[sv l] (fun v l1 nw => l1 = [] ∧ ∃ os, nw = flatO os ∧ ∃ v', v = .tuple #[v', .bool true] ∧ BaseIs 3 22 l (decide (l = nXF)) (bQ l 0) (bQ l 1) (bU l) v' os) := by
  refine fxO2 (n := 76) Tryd.func19 rfl rfl (by simp) (argE [sv l] 0) (argE_ok _) ?_
  refine Qs<|Qp<|(QH 0) fun r1=>(Qa)<|Qn<|Qs<|Qp<|(QH 1) fun r2=>Qn<|Qs<|Qs<|Qp<|(Qm)<|Qn<|Qb<|Qs<|Qp ?_
  refine e_eqStr (k := [78, 78]) rfl rfl rfl hl (by decide) ?_
  refine (Qa)<|Qn ?_
  refine e_cond rfl ?_ ?_
  · intro hc0
    obtain rfl : l = nNN := of_decide_eq_true hc0
    refine Qs<|Qp<|(Qf 0) ?_
    refine e_stV (i := 1) 0 (Uz 9) rfl rfl rfl rfl rfl (by decide) (.inl rfl) ?_
    refine Qn<|Qp ?_
    refine e_buildSl 2 #[ii 1] (Uu 22 rfl) (Uz 3 rfl) (Ub 3 rfl) (by decide) (by decide) rfl (by kernel_rfl) rfl fun r3 => ?_
    refine e_buildSl 3 #[ii 1, ii 3] (Uu 22 rfl) (Uz 3 rfl) (Ub 3 rfl) (by decide) (by decide) rfl (by kernel_rfl) rfl fun r4 => ?_
    refine e_buildSl 4 #[slv r3 1, slv r4 2] (Uu 24 rfl) (Uz 22 rfl) (Ub 22 rfl) (by decide) (by decide) rfl (fill2v (by simp) rfl rfl) rfl fun r5 => ?_
    refine (Qf 5) ?_
    refine e_stV (i := 1) 5 (Uz 24) rfl rfl rfl rfl rfl (by decide) (.inl rfl) ?_
    refine Qn<|Qs<|Qp<|(QD 1) ?_
    refine e_storeA (i := 0) (Uz 26) rfl rfl (arrv_size _ _) (cells_one ⟨fun _ => rfl, fun _ => rfl, fun _ => rfl, fun _ => rfl, fun _ => rfl, fun _ => rfl, trivial⟩) rfl cells_sz (.inl rfl) ?_
    refine (Qa)<|Qn<|Qr ?_
    exact ⟨_, _, _, _, [90, 91, 2, 3, 92, 4], rfl, .cell (i := 0) rfl rfl (Uu 26) rfl (Uz 26) (arrv_size _ _), .tmp rfl, (by rw [tab_NN.1, tab_NN.2.1, tab_NN.2.2]; exact base_two [1] [1, 3] (own_nil _ _) (own_nil _ _) (by decide) (by decide)), by decide, rfl⟩
  · intro hc0
    have hn0 := of_decide_eq_false hc0
    refine Qs<|Qp ?_
    refine e_eqStr (k := [78, 75]) rfl rfl rfl hl (by decide) ?_
    refine (Qa)<|Qn ?_
    refine e_cond rfl ?_ ?_
    · intro hc1
      obtain rfl : l = nNK := of_decide_eq_true hc1
      refine Qs<|Qp<|(Qf 0) ?_
      refine e_stV (i := 1) 0 (Uz 9) rfl rfl rfl rfl rfl (by decide) (.inl rfl) ?_
      refine Qn<|Qs<|Qp ?_
      refine e_buildSl 2 #[ii 2] (Uu 22 rfl) (Uz 3 rfl) (Ub 3 rfl) (by decide) (by decide) rfl (by kernel_rfl) rfl fun r3 => ?_
      refine (Qf 3)<|(QA 4 1) ?_
      refine e_stV (i := 1) 4 (Uz 22) rfl rfl rfl rfl rfl (by decide) (.inl rfl) ?_
      refine Qn<|Qp ?_
      refine e_buildSl 3 #[ii 1, ii 4] (Uu 22 rfl) (Uz 3 rfl) (Ub 3 rfl) (by decide) (by decide) rfl (by kernel_rfl) rfl fun r4 => ?_
      refine e_buildSl 4 #[ii 1, ii 3] (Uu 22 rfl) (Uz 3 rfl) (Ub 3 rfl) (by decide) (by decide) rfl (by kernel_rfl) rfl fun r5 => ?_
      refine e_buildSl 5 #[slv r4 2, slv r5 2] (Uu 24 rfl) (Uz 22 rfl) (Ub 22 rfl) (by decide) (by decide) rfl (fill2v (by simp) rfl rfl) rfl fun r6 => ?_
      refine (Qf 5) ?_
      refine e_stV (i := 1) 5 (Uz 24) rfl rfl rfl rfl rfl (by decide) (.inl rfl) ?_
      refine Qn<|Qs<|Qp<|(QD 1) ?_
      refine e_storeA (i := 0) (Uz 26) rfl rfl (arrv_size _ _) (cells_one ⟨fun _ => rfl, fun _ => rfl, fun _ => rfl, fun _ => rfl, fun _ => rfl, fun _ => rfl, trivial⟩) rfl cells_sz (.inl rfl) ?_
      refine (Qa)<|Qn<|Qr ?_
      exact ⟨_, _, _, _, [90, 2, 3, 4, 92, 5], rfl, .cell (i := 0) rfl rfl (Uu 26) rfl (Uz 26) (arrv_size _ _), .tmp rfl, (by rw [tab_NK.1, tab_NK.2.1, tab_NK.2.2]; exact base_two [1, 4] [1, 3] (own_nil _ _) (own_lit 3 r3 [2] (by decide)) (by decide) (by decide)), by decide, rfl⟩
    · intro hc1
      have hn1 := of_decide_eq_false hc1
      refine Qs<|Qp ?_
      refine e_eqStr (k := [88, 88]) rfl rfl rfl hl (by decide) ?_
      refine (Qa)<|Qn ?_
      refine e_cond rfl ?_ ?_
      · intro hc2
        obtain rfl : l = nXX := of_decide_eq_true hc2
        refine Qs<|Qp<|(Qf 0) ?_
        refine e_stV (i := 1) 0 (Uz 9) rfl rfl rfl rfl rfl (by decide) (.inl rfl) ?_
        refine Qn<|Qp ?_
        refine e_buildSl 2 #[ii 1] (Uu 22 rfl) (Uz 3 rfl) (Ub 3 rfl) (by decide) (by decide) rfl (by kernel_rfl) rfl fun r3 => ?_
        refine e_buildSl 3 #[ii 1, ii 3, ii 2, ii 4] (Uu 22 rfl) (Uz 3 rfl) (Ub 3 rfl) (by decide) (by decide) rfl (by kernel_rfl) rfl fun r4 => ?_
        refine e_buildSl 4 #[ii 2, ii 5] (Uu 22 rfl) (Uz 3 rfl) (Ub 3 rfl) (by decide) (by decide) rfl (by kernel_rfl) rfl fun r5 => ?_
        refine e_buildSl 5 #[slv r3 1, slv r4 4, slv r5 2] (Uu 24 rfl) (Uz 22 rfl) (Ub 22 rfl) (by decide) (by decide) rfl (fill3 (by simp) rfl rfl rfl) rfl fun r6 => ?_
        refine (Qf 5) ?_
        refine e_stV (i := 1) 5 (Uz 24) rfl rfl rfl rfl rfl (by decide) (.inl rfl) ?_
        refine Qn<|Qs<|Qp<|(QD 1) ?_
        refine e_storeA (i := 0) (Uz 26) rfl rfl (arrv_size _ _) (cells_one ⟨fun _ => rfl, fun _ => rfl, fun _ => rfl, fun _ => rfl, fun _ => rfl, fun _ => rfl, trivial⟩) rfl cells_sz (.inl rfl) ?_
        refine (Qa)<|Qn<|Qr ?_
        exact ⟨_, _, _, _, [90, 91, 2, 3, 4, 5], rfl, .cell (i := 0) rfl rfl (Uu 26) rfl (Uz 26) (arrv_size _ _), .tmp rfl, (by rw [tab_XX.1, tab_XX.2.1, tab_XX.2.2]; exact base_three [1] [1, 3, 2, 4] [2, 5] (own_nil _ _) (own_nil _ _) (by decide) (by decide) (by decide)), by decide, rfl⟩
      · intro hc2
        have hn2 := of_decide_eq_false hc2
        refine Qs<|Qp ?_
        refine e_eqStr (k := [73, 75]) rfl rfl rfl hl (by decide) ?_
        refine (Qa)<|Qn ?_
        refine e_cond rfl ?_ ?_
        · intro hc3
          obtain rfl : l = nIK := of_decide_eq_true hc3
          refine Qs<|Qp<|(Qf 0) ?_
          refine e_stV (i := 1) 0 (Uz 9) rfl rfl rfl rfl rfl (by decide) (.inl rfl) ?_
          refine Qn<|Qs<|Qp ?_
          refine e_buildSl 2 #[ii 2] (Uu 22 rfl) (Uz 3 rfl) (Ub 3 rfl) (by decide) (by decide) rfl (by kernel_rfl) rfl fun r3 => ?_
          refine (Qf 3)<|(QA 4 1) ?_
          refine e_stV (i := 1) 4 (Uz 22) rfl rfl rfl rfl rfl (by decide) (.inl rfl) ?_
          refine Qn<|Qp ?_
          refine e_buildSl 3 #[ii 1, ii 4, ii 2, ii 6] (Uu 22 rfl) (Uz 3 rfl) (Ub 3 rfl) (by decide) (by decide) rfl (by kernel_rfl) rfl fun r4 => ?_
          refine e_buildSl 4 #[ii 1, ii 3, ii 5] (Uu 22 rfl) (Uz 3 rfl) (Ub 3 rfl) (by decide) (by decide) rfl (by kernel_rfl) rfl fun r5 => ?_
          refine e_buildSl 5 #[slv r4 4, slv r5 3] (Uu 24 rfl) (Uz 22 rfl) (Ub 22 rfl) (by decide) (by decide) rfl (fill2v (by simp) rfl rfl) rfl fun r6 => ?_
          refine (Qf 5) ?_
          refine e_stV (i := 1) 5 (Uz 24) rfl rfl rfl rfl rfl (by decide) (.inl rfl) ?_
          refine Qn<|Qs<|Qp<|(QD 1) ?_
          refine e_storeA (i := 0) (Uz 26) rfl rfl (arrv_size _ _) (cells_one ⟨fun _ => rfl, fun _ => rfl, fun _ => rfl, fun _ => rfl, fun _ => rfl, fun _ => rfl, trivial⟩) rfl cells_sz (.inl rfl) ?_
          refine (Qa)<|Qn<|Qr ?_
          exact ⟨_, _, _, _, [90, 2, 3, 4, 92, 5], rfl, .cell (i := 0) rfl rfl (Uu 26) rfl (Uz 26) (arrv_size _ _), .tmp rfl, (by rw [tab_IK.1, tab_IK.2.1, tab_IK.2.2]; exact base_two [1, 4, 2, 6] [1, 3, 5] (own_nil _ _) (own_lit 3 r3 [2] (by decide)) (by decide) (by decide)), by decide, rfl⟩
        · intro hc3
          have hn3 := of_decide_eq_false hc3
          refine Qs<|Qp ?_
          refine e_eqStr (k := [88, 75]) rfl rfl rfl hl (by decide) ?_
          refine (Qa)<|Qn ?_
          refine e_cond rfl ?_ ?_
          · intro hc4
            obtain rfl : l = nXK := of_decide_eq_true hc4
            refine Qs<|Qp<|(Qf 0) ?_
            refine e_stV (i := 1) 0 (Uz 9) rfl rfl rfl rfl rfl (by decide) (.inl rfl) ?_
            refine Qn<|Qs<|Qp ?_
            refine e_buildSl 2 #[ii 2] (Uu 22 rfl) (Uz 3 rfl) (Ub 3 rfl) (by decide) (by decide) rfl (by kernel_rfl) rfl fun r3 => ?_
            refine (Qf 3)<|(QA 4 1) ?_
            refine e_stV (i := 1) 4 (Uz 22) rfl rfl rfl rfl rfl (by decide) (.inl rfl) ?_
            refine Qn<|Qp ?_
            refine e_buildSl 3 #[ii 1, ii 4] (Uu 22 rfl) (Uz 3 rfl) (Ub 3 rfl) (by decide) (by decide) rfl (by kernel_rfl) rfl fun r4 => ?_
            refine e_buildSl 4 #[ii 1, ii 3] (Uu 22 rfl) (Uz 3 rfl) (Ub 3 rfl) (by decide) (by decide) rfl (by kernel_rfl) rfl fun r5 => ?_
            refine e_buildSl 5 #[ii 2, ii 5] (Uu 22 rfl) (Uz 3 rfl) (Ub 3 rfl) (by decide) (by decide) rfl (by kernel_rfl) rfl fun r6 => ?_
            refine e_buildSl 6 #[slv r4 2, slv r5 2, slv r6 2] (Uu 24 rfl) (Uz 22 rfl) (Ub 22 rfl) (by decide) (by decide) rfl (fill3 (by simp) rfl rfl rfl) rfl fun r7 => ?_
            refine (Qf 5) ?_
            refine e_stV (i := 1) 5 (Uz 24) rfl rfl rfl rfl rfl (by decide) (.inl rfl) ?_
            refine Qn<|Qs<|Qp<|(QD 1) ?_
            refine e_storeA (i := 0) (Uz 26) rfl rfl (arrv_size _ _) (cells_one ⟨fun _ => rfl, fun _ => rfl, fun _ => rfl, fun _ => rfl, fun _ => rfl, fun _ => rfl, trivial⟩) rfl cells_sz (.inl rfl) ?_
            refine (Qa)<|Qn<|Qr ?_
            exact ⟨_, _, _, _, [90, 2, 3, 4, 5, 6], rfl, .cell (i := 0) rfl rfl (Uu 26) rfl (Uz 26) (arrv_size _ _), .tmp rfl, (by rw [tab_XK.1, tab_XK.2.1, tab_XK.2.2]; exact base_three [1, 4] [1, 3] [2, 5] (own_nil _ _) (own_lit 3 r3 [2] (by decide)) (by decide) (by decide) (by decide)), by decide, rfl⟩
          · intro hc4
            have hn4 := of_decide_eq_false hc4
            refine Qs<|Qp ?_
            refine e_eqStr (k := [75, 75]) rfl rfl rfl hl (by decide) ?_
            refine (Qa)<|Qn ?_
            refine e_cond rfl ?_ ?_
            · intro hc5
              obtain rfl : l = nKK := of_decide_eq_true hc5
              refine Qs<|Qp<|(Qf 0) ?_
              refine e_stV (i := 1) 0 (Uz 9) rfl rfl rfl rfl rfl (by decide) (.inl rfl) ?_
              refine Qn<|Qs<|Qp ?_
              refine e_buildSl 2 #[ii 2] (Uu 22 rfl) (Uz 3 rfl) (Ub 3 rfl) (by decide) (by decide) rfl (by kernel_rfl) rfl fun r3 => ?_
              refine e_buildSl 3 #[ii 2] (Uu 22 rfl) (Uz 3 rfl) (Ub 3 rfl) (by decide) (by decide) rfl (by kernel_rfl) rfl fun r4 => ?_
              refine e_build (arrv 2 (fun i => if i = 0 then slv r3 1 else slv r4 1)) (Ub 23 rfl) (Uu 23 rfl) (Uz 22 rfl) rfl (fill2v (by rfl) rfl rfl) rfl ?_
              refine (Qf 3) ?_
              refine e_stP (i := 1) (Uz 23) rfl rfl (fun j hj => by rcases (by omega : j = 0 ∨ j = 1) with rfl | rfl <;> rfl) rfl (by decide) (.inl rfl) ?_
              refine e_blk (c' := (cells 6 [pV (sv nKK), pV (.bool false), pV nilS, pV (slv r3 1), pV (slv r4 1), pV nilS])) (arrv_congr fun j hj => by rcases (by omega : j = 0 ∨ j = 1 ∨ j = 2 ∨ j = 3 ∨ j = 4 ∨ j = 5) with rfl | rfl | rfl | rfl | rfl | rfl <;> rfl) ?_
              refine Qn<|Qp ?_
              refine e_buildSl 4 #[ii 1, ii 4, ii 6] (Uu 22 rfl) (Uz 3 rfl) (Ub 3 rfl) (by decide) (by decide) rfl (by kernel_rfl) rfl fun r5 => ?_
              refine e_buildSl 5 #[ii 1, ii 3, ii 5] (Uu 22 rfl) (Uz 3 rfl) (Ub 3 rfl) (by decide) (by decide) rfl (by kernel_rfl) rfl fun r6 => ?_
              refine e_buildSl 6 #[slv r5 3, slv r6 3] (Uu 24 rfl) (Uz 22 rfl) (Ub 22 rfl) (by decide) (by decide) rfl (fill2v (by simp) rfl rfl) rfl fun r7 => ?_
              refine (Qf 5) ?_
              refine e_stV (i := 1) 5 (Uz 24) rfl rfl rfl rfl rfl (by decide) (.inl rfl) ?_
              refine Qn<|Qs<|Qp<|(QD 1) ?_
              refine e_storeA (i := 0) (Uz 26) rfl rfl (arrv_size _ _) (cells_one ⟨fun _ => rfl, fun _ => rfl, fun _ => rfl, fun _ => rfl, fun _ => rfl, fun _ => rfl, trivial⟩) rfl cells_sz (.inl rfl) ?_
              refine (Qa)<|Qn<|Qr ?_
              exact ⟨_, _, _, _, [2, 3, 4, 5, 92, 6], rfl, .cell (i := 0) rfl rfl (Uu 26) rfl (Uz 26) (arrv_size _ _), .tmp rfl, (by rw [tab_KK.1, tab_KK.2.1, tab_KK.2.2]; exact base_two [1, 4, 6] [1, 3, 5] (own_lit 3 r3 [2] (by decide)) (own_lit 3 r4 [2] (by decide)) (by decide) (by decide)), by decide, rfl⟩
            · intro hc5
              have hn5 := of_decide_eq_false hc5
              refine Qs<|Qp ?_
              refine e_eqStr (k := [88, 88, 102, 97, 108, 108, 98, 97, 99, 107]) rfl rfl rfl hl (by decide) ?_
              refine (Qa)<|Qn ?_
              refine e_cond rfl ?_ ?_
              · intro hc6
                obtain rfl : l = nXF := of_decide_eq_true hc6
                refine Qs<|Qp<|(Qf 0) ?_
                refine e_stV (i := 1) 0 (Uz 9) rfl rfl rfl rfl rfl (by decide) (.inl rfl) ?_
                refine (Qf 1) ?_
                refine e_stV (i := 1) 1 (Uz 4) rfl rfl rfl rfl rfl (by decide) (.inl rfl) ?_
                refine Qn<|Qs<|Qp ?_
                refine e_buildSl 2 #[ii 1] (Uu 22 rfl) (Uz 3 rfl) (Ub 3 rfl) (by decide) (by decide) rfl (by kernel_rfl) rfl fun r3 => ?_
                refine (Qf 3)<|(QA 3 0) ?_
                refine e_stV (i := 1) 3 (Uz 22) rfl rfl rfl rfl rfl (by decide) (.inl rfl) ?_
                refine Qn<|Qp ?_
                refine e_buildSl 3 #[ii 1, ii 3, ii 2, ii 4] (Uu 22 rfl) (Uz 3 rfl) (Ub 3 rfl) (by decide) (by decide) rfl (by kernel_rfl) rfl fun r4 => ?_
                refine e_buildSl 4 #[ii 2, ii 5] (Uu 22 rfl) (Uz 3 rfl) (Ub 3 rfl) (by decide) (by decide) rfl (by kernel_rfl) rfl fun r5 => ?_
                refine e_buildSl 5 #[slv r4 4, slv r5 2] (Uu 24 rfl) (Uz 22 rfl) (Ub 22 rfl) (by decide) (by decide) rfl (fill2v (by simp) rfl rfl) rfl fun r6 => ?_
                refine (Qf 5) ?_
                refine e_stV (i := 1) 5 (Uz 24) rfl rfl rfl rfl rfl (by decide) (.inl rfl) ?_
                refine Qn<|Qs<|Qp<|(QD 1) ?_
                refine e_storeA (i := 0) (Uz 26) rfl rfl (arrv_size _ _) (cells_one ⟨fun _ => rfl, fun _ => rfl, fun _ => rfl, fun _ => rfl, fun _ => rfl, fun _ => rfl, trivial⟩) rfl cells_sz (.inl rfl) ?_
                refine (Qa)<|Qn<|Qr ?_
                exact ⟨_, _, _, _, [2, 91, 3, 4, 92, 5], rfl, .cell (i := 0) rfl rfl (Uu 26) rfl (Uz 26) (arrv_size _ _), .tmp rfl, (by rw [tab_XF.1, tab_XF.2.1, tab_XF.2.2]; exact base_two [1, 3, 2, 4] [2, 5] (own_lit 3 r3 [1] (by decide)) (own_nil _ _) (by decide) (by decide)), by decide, rfl⟩
              · intro hc6
                have hn6 := of_decide_eq_false hc6
                exact absurd (ptext_no hn0 hn1 hn2 hn3 hn4 hn5 hn6) h0
end Go.Proofs.YtejejmhbhegneaaDoor
namespace Go.Proofs.YtejejmhbhegneaaDoor
open Go Go.RowKit
variable {G : Mem}
set_option maxHeartbeats 2000000 in
theorem dwith_none (l : List Nat) (v : Value) (hl : ∀ b ∈ l, b < 256) (h0 : ptext l = []) : Fn Tryd.prog G 8 #[sv l, v] (.tuple #[.agg (cells 6 [pV (.string ByteArray.empty), pV (.bool false), pV nilS, pV nilS, pV nilS, pV nilS]), ii 5]) := by
  refine Qf2 Tryd.func8 ?_
  refine Qs<|Qp<|(QH 0) fun r1=>(Qa)<|Qn<|Qs<|Qp<|(Qm) ?_
  refine e_call rfl (Un 19) (based_no l hl h0) rfl rfl ?_
  refine (Qm)<|(Qx)<|(Qx)<|(QH 1) fun r2=>?_
  refine e_storeA (i := 1) (Uz 26) rfl rfl (arrv_size _ _) (cells_one ⟨fun _ => rfl, fun _ => rfl, fun _ => rfl, fun _ => rfl, fun _ => rfl, fun _ => rfl, trivial⟩) rfl cells_sz (.inl rfl) ?_
  refine (Qa)<|Qn<|Qs<|Qs<|Qp<|(Qm)<|(Q0)<|Qn<|(Qct)<|Qs<|Qp ?_
  refine e_buildS (cells 6 [pV (.string ByteArray.empty), pV (.bool false), pV nilS, pV nilS, pV nilS, pV nilS]) (Ub 26 rfl) (Uu 26 rfl) pls26 rfl (by kernel_rfl) rfl ?_
  refine e_storeA (i := 0) (Uz 26) rfl rfl (arrv_size _ _) (cells_one ⟨fun _ => rfl, fun _ => rfl, fun _ => rfl, fun _ => rfl, fun _ => rfl, fun _ => rfl, trivial⟩) rfl cells_sz (.inl rfl) ?_
  refine (Qa)<|Qn<|Qr ?_
  exact ⟨_, _, rfl, .cell (i := 0) rfl rfl (Uu 26) rfl (Uz 26) (arrv_size _ _), .tmp rfl⟩
set_option maxHeartbeats 4000000 in
theorem dwith_err (l : List Nat) (v : Value) (ps : List Int) (e : Nat) (hl : ∀ b ∈ l, b < 256) (hv : Shows G 1 v ps.length (ps.map iv)) (hz : ps.length ≤ 9223372036854775807) (h0 : ptext l ≠ []) (he : (pwith l ps).1 = e) (he0 : e ≠ 0) : Fn Tryd.prog G 8 #[sv l, v] (.tuple #[.agg (cells 6 [pV (.string ByteArray.empty), pV (.bool false), pV nilS, pV nilS, pV nilS, pV nilS]), ii e]) := by
  have hpc : pchk (bU l).length ps = e := by rw [(bU_len h0).1, ← pwith_pchk h0]; exact he
  refine Qf2 Tryd.func8 ?_
  refine Qs<|Qp<|(QH 0) fun r1=>(Qa)<|Qn<|Qs<|QR ⟨[], 4, [], none⟩<|(Qm) ?_
  refine e_callO 50 rfl rfl (Un 19) seenG (based_fn l hl h0) (base_room 3 22 l (decide (l = nXF)) (bQ l 0) (bQ l 1) (bU l) (.bool true) (by have := (bQ_len h0).1; omega) (by have := (bQ_len h0).2; omega) (fun q hq => by have := (bU_len h0).2.2.2 q hq; omega) (by have := (bU_len h0).2.1; have := (bU_len h0).2.2.1; omega)) rfl rfl fun v1_1 os1_1 hO1_1 => ?_
  obtain ⟨v9, rfl, va, vb, TF, oa, ob, o0, o1, o2, rT, rfl, rfl, hA, hB, hR⟩ := hO1_1
  simp only [labO]
  refine (Qm)<|(Qx)<|(Qx)<|(QH 1) fun r2=>?_
  refine e_storeA (i := 1) (Uz 26) rfl rfl (arrv_size _ _) (catOkP rfl (shows_oneC hA.shows) (shows_oneC hB.shows) rfl) rfl cells_sz (.inl rfl) ?_
  refine (Qa)<|Qn<|Qs<|Qs<|Qp<|(Qm)<|(Q0)<|Qn<|(Qcf)<|Qk<|Qs<|Qs<|Qp<|(Qm)<|(Qf 5)<|(QV 5 1) ?_
  refine e_lenSl (Uu 24) rfl rfl rfl ?_
  refine e_as (show _ = ii (bU l).length from rfl) ?_
  refine e_call rfl (Un 20) (chkpl_fn v ps (bU l).length hv hz) rfl rfl ?_
  refine e_as (congrArg ii hpc) ?_
  refine (Qa)<|Qn<|Qs<|Qp<|(Qm)<|(QN)<|(Qat)<|Qn<|(Qct)<|Qs<|Qp ?_
  refine e_buildS (cells 6 [pV (.string ByteArray.empty), pV (.bool false), pV nilS, pV nilS, pV nilS, pV nilS]) (Ub 26 rfl) (Uu 26 rfl) pls26 rfl (by kernel_rfl) rfl ?_
  refine (Qm) ?_
  refine e_storeA (i := 0) (Uz 26) rfl rfl (arrv_size _ _) (cells_one ⟨fun _ => rfl, fun _ => rfl, fun _ => rfl, fun _ => rfl, fun _ => rfl, fun _ => rfl, trivial⟩) rfl cells_sz (.inl rfl) ?_
  refine (Qa)<|Qn<|Qr ?_
  exact ⟨_, _, rfl, .cell (i := 0) rfl rfl (Uu 26) rfl (Uz 26) (arrv_size _ _), .tmp rfl⟩
end Go.Proofs.YtejejmhbhegneaaDoor
namespace Go.Proofs.YtejejmhbhegneaaDoor
open Go Go.RowKit
variable {G : Mem}
set_option maxHeartbeats 8000000 in
theorem dwith_ok (l : List Nat) (v : Value) (ps : List Int) (hl : ∀ b ∈ l, b < 256) (hv : Shows G 1 v ps.length (ps.map iv)) (hz : ps.length ≤ 9223372036854775807) (he : (pwith l ps).1 = 0) : Fx Tryd.prog G [] 8 #[sv l, v] (fun w l1 nw => l1 = [] ∧ ∃ w', w = .tuple #[w', ii 0] ∧ PatIsI l (decide (l = nXF)) ps (wq l ps 0) (wq l ps 1) (wt l ps) w' nw) := by
  obtain ⟨h0, hps4, _⟩ := pwith_in he
  have hpc : pchk (bU l).length ps = 0 := by rw [(bU_len h0).1, ← pwith_pchk h0]; exact he
  obtain ⟨hp4, hpb⟩ := pchk_bound hpc
  obtain ⟨hw1, hw2, hw3⟩ := with_rows he
  rw [hw1, hw2, hw3]
  obtain ⟨_, hb2, hb3, hb4⟩ := bU_len h0
  refine fxD2 (n := 44) Tryd.func8 rfl rfl (by simp) (argE [sv l, v] 0) (argE_ok _) ?_
  refine Qs<|Qp<|(QH 0) fun r1=>(Qa)<|Qn<|Qs<|QR ⟨[], 4, [], none⟩<|(Qm) ?_
  refine e_callO 50 rfl rfl (Un 19) seenG (based_fn l hl h0) (base_room 3 22 l (decide (l = nXF)) (bQ l 0) (bQ l 1) (bU l) (.bool true) (by have := (bQ_len h0).1; omega) (by have := (bQ_len h0).2; omega) (fun q hq => by have := (bU_len h0).2.2.2 q hq; omega) (by have := (bU_len h0).2.1; have := (bU_len h0).2.2.1; omega)) rfl rfl fun v1_1 os1_1 hO1_1 => ?_
  obtain ⟨v9, rfl, va, vb, TF, oa, ob, o0, o1, o2, rT, rfl, rfl, hA, hB, hR⟩ := hO1_1
  simp only [labO]
  refine (Qm)<|(Qx)<|(Qx)<|(QH 1) fun r2=>?_
  refine e_storeA (i := 1) (Uz 26) rfl rfl (arrv_size _ _) (catOkP rfl (shows_oneC hA.shows) (shows_oneC hB.shows) rfl) rfl cells_sz (.inl rfl) ?_
  refine (Qa)<|Qn<|Qs<|Qs<|Qp<|(Qm)<|(Q0)<|Qn<|(Qcf)<|Qk<|Qs<|Qs<|Qp<|(Qm)<|(Qf 5)<|(QV 5 1) ?_
  refine e_lenSl (Uu 24) rfl rfl rfl ?_
  refine e_as (show _ = ii (bU l).length from rfl) ?_
  refine e_call rfl (Un 20) (chkpl_fn v ps (bU l).length hv hz) rfl rfl ?_
  refine e_as (congrArg ii hpc) ?_
  refine (Qa)<|Qn<|Qs<|Qp<|(Qm)<|(QN) ?_
  refine e_as (congrArg Value.bool (decide_eq_false (by decide))) ?_
  refine Qn<|(Qcf)<|Qk<|Qs<|Qp ?_
  refine e_buildSl0 2 (Uu 22 rfl) (Uz 3 rfl) rfl fun r3 => ?_
  refine (Qm) ?_
  refine e_append 2 own_none hv rfl seenG (Uu 22) (Uz 3) (Uy 3) (Ub 3) (by rfl) rfl rfl iv_one (by simp only [maxLen]; omega) (by omega) rfl fun v3_2 oz3_2 ho3_2 => ?_
  refine (Qf 2) ?_
  refine e_stV (i := 1) 2 (Uz 22) rfl rfl (shows_oneC ho3_2.shows) rfl rfl (by decide) (.inl rfl) ?_
  refine Qn<|Qs<|Qs<|Qp<|(Qm)<|(QC hv)<|(Qm)<|Qn<|Qb ?_
  refine QzK [(4, _), (5, _), (6, _), (32, _), (33, _)] [(0, _), (1, _), (2, oz3_2), (50, oa), (51, ob)] (fun kk E m => ∃ (i : Nat) (TF1 : Nat → Value) (p0 : Option Blk) (p1 : Option Blk) (p2 : Option Blk), kk = ps.length - i ∧ E = [(34, ii i)] ∧ m = [(52, p0), (53, p1), (54, p2), (55, (some ⟨rT, arrv (bU l).length TF1, 22⟩))] ∧ (i ≤ ps.length) ∧ (RowsIs 3 TF1 ((ps.take i).foldl insU (bU l)) p0 p1 p2) ∧ (∀ q ∈ (ps.take i).foldl insU (bU l), q.length ≤ 4 + i)) ⟨0, TF, o0, o1, o2, rfl, rfl, rfl, by omega, (by rw [List.take_zero]; exact hR), (by rw [List.take_zero]; exact hb4)⟩ ⟨rfl, rfl, rfl, rfl, rfl, rfl, trivial⟩ ⟨rfl, rfl, rfl, rfl, rfl, rfl, rfl, rfl, rfl, trivial⟩ ?_
  rintro kk E m ⟨i, TF1, p0, p1, p2, rfl, rfl, rfl, hf0_0, hf0_1, hf0_2⟩
  simp only [catE, catL]
  refine Qs<|Qp<|(Ql)<|Qn<|Qs ?_
  refine e_cond rfl ?_ ?_
  · intro hc2
    have hc2 : i < ps.length := by have := of_decide_eq_true hc2; omega
    refine Qk<|Qs<|Qb<|Qs<|Qp ?_
    refine e_atV hv (Uu 22) (Uz 3) rfl rfl (by omega) rfl ?_
    refine (QS) ?_
    obtain ⟨n9, hn9⟩ : ∃ n9 : Nat, ps.getD i 0 = (n9 : Int) := ⟨(ps.getD i 0).toNat, by have := hpb i (by omega); omega⟩
    refine e_loadV hv seenG (Uu 3) rfl rfl (iv_at (by omega)) rfl ?_
    refine e_as (show _ = ii n9 from congrArg (Value.int .i64) hn9) ?_
    refine (Qa)<|Qn ?_
    have hnb : n9 ≤ (bU l).length := by have := hpb i (by omega); omega
    have hrl := rowN_le hf0_2 (n9 - 1)
    rcases (by omega : n9 - 1 = 0 ∨ n9 - 1 = 1 ∨ n9 - 1 = 2) with hr | hr | hr
    · skip
      refine QR ⟨[], 5, [], none⟩ ?_
      have hRr : OwnS 3 1 (TF1 (n9 - 1)) (((ps.take i).foldl insU (bU l)).getD (n9 - 1) []).length (iis (((ps.take i).foldl insU (bU l)).getD (n9 - 1) [])) p0.toList := by (have h9 := hf0_1 (n9 - 1) (by rw [foldU_len]; omega)); rw [show ox p0 p1 p2 (n9 - 1) = p0 by rw [hr]; rfl] at h9; exact h9
      refine (Qf 5)<|(QV 5 1)<|(Qm) ?_
      refine e_callT 55 52 rfl rfl (Un 21) rfl rfl (by decide) (fun z hz => .inl hz) (fun hne => putpsk_fn (G := G) rT (bU l).length n9 TF1 (((ps.take i).foldl insU (bU l)).getD (n9 - 1) []) p0 hRr (by omega) (by omega) (by omega) hne) (fun m' => by obtain ⟨w, oz, h1, h2⟩ := own_fresh m' 3 (insR n9 (((ps.take i).foldl insU (bU l)).getD (n9 - 1) [])) (by rw [insR_len]; omega); exact ⟨_, _, oz, ⟨rfl, w, rfl, h1⟩, h2⟩) rfl rfl fun v5_3 c5_3 oz5_3 hS5_3 => ?_
      obtain ⟨rfl, w9, rfl, ho9⟩ := hS5_3
      refine Qn<|Qp<|(Q2 1)<|(Qm)<|Qn ?_
      refine QzL ⟨i + 1, _, _, _, _, rfl, rfl, rfl, by omega, (by (have h9 := rows_set (j := n9 - 1) hf0_1 (by omega) ho9); rw [if_pos hr, if_neg (by omega), if_neg (by omega)] at h9; rw [fold_step (by omega), hn9, insU_insR]; exact h9), (fun q hq => by rw [fold_step (by omega)] at hq; have := insU_row hf0_2 q hq; omega)⟩ ⟨rfl, rfl, rfl, rfl, rfl, rfl, trivial⟩ ⟨rfl, rfl, rfl, rfl, rfl, rfl, rfl, rfl, rfl, trivial⟩ ?_
      omega
    · skip
      refine QR ⟨[], 5, [], none⟩ ?_
      have hRr : OwnS 3 1 (TF1 (n9 - 1)) (((ps.take i).foldl insU (bU l)).getD (n9 - 1) []).length (iis (((ps.take i).foldl insU (bU l)).getD (n9 - 1) [])) p1.toList := by (have h9 := hf0_1 (n9 - 1) (by rw [foldU_len]; omega)); rw [show ox p0 p1 p2 (n9 - 1) = p1 by rw [hr]; rfl] at h9; exact h9
      refine (Qf 5)<|(QV 5 1)<|(Qm) ?_
      refine e_callT 55 53 rfl rfl (Un 21) rfl rfl (by decide) (fun z hz => .inl hz) (fun hne => putpsk_fn (G := G) rT (bU l).length n9 TF1 (((ps.take i).foldl insU (bU l)).getD (n9 - 1) []) p1 hRr (by omega) (by omega) (by omega) hne) (fun m' => by obtain ⟨w, oz, h1, h2⟩ := own_fresh m' 3 (insR n9 (((ps.take i).foldl insU (bU l)).getD (n9 - 1) [])) (by rw [insR_len]; omega); exact ⟨_, _, oz, ⟨rfl, w, rfl, h1⟩, h2⟩) rfl rfl fun v5_3 c5_3 oz5_3 hS5_3 => ?_
      obtain ⟨rfl, w9, rfl, ho9⟩ := hS5_3
      refine Qn<|Qp<|(Q2 1)<|(Qm)<|Qn ?_
      refine QzL ⟨i + 1, _, _, _, _, rfl, rfl, rfl, by omega, (by (have h9 := rows_set (j := n9 - 1) hf0_1 (by omega) ho9); rw [if_neg (by omega), if_pos hr, if_neg (by omega)] at h9; rw [fold_step (by omega), hn9, insU_insR]; exact h9), (fun q hq => by rw [fold_step (by omega)] at hq; have := insU_row hf0_2 q hq; omega)⟩ ⟨rfl, rfl, rfl, rfl, rfl, rfl, trivial⟩ ⟨rfl, rfl, rfl, rfl, rfl, rfl, rfl, rfl, rfl, trivial⟩ ?_
      omega
    · skip
      refine QR ⟨[], 5, [], none⟩ ?_
      have hRr : OwnS 3 1 (TF1 (n9 - 1)) (((ps.take i).foldl insU (bU l)).getD (n9 - 1) []).length (iis (((ps.take i).foldl insU (bU l)).getD (n9 - 1) [])) p2.toList := by (have h9 := hf0_1 (n9 - 1) (by rw [foldU_len]; omega)); rw [show ox p0 p1 p2 (n9 - 1) = p2 by rw [hr]; rfl] at h9; exact h9
      refine (Qf 5)<|(QV 5 1)<|(Qm) ?_
      refine e_callT 55 54 rfl rfl (Un 21) rfl rfl (by decide) (fun z hz => .inl hz) (fun hne => putpsk_fn (G := G) rT (bU l).length n9 TF1 (((ps.take i).foldl insU (bU l)).getD (n9 - 1) []) p2 hRr (by omega) (by omega) (by omega) hne) (fun m' => by obtain ⟨w, oz, h1, h2⟩ := own_fresh m' 3 (insR n9 (((ps.take i).foldl insU (bU l)).getD (n9 - 1) [])) (by rw [insR_len]; omega); exact ⟨_, _, oz, ⟨rfl, w, rfl, h1⟩, h2⟩) rfl rfl fun v5_3 c5_3 oz5_3 hS5_3 => ?_
      obtain ⟨rfl, w9, rfl, ho9⟩ := hS5_3
      refine Qn<|Qp<|(Q2 1)<|(Qm)<|Qn ?_
      refine QzL ⟨i + 1, _, _, _, _, rfl, rfl, rfl, by omega, (by (have h9 := rows_set (j := n9 - 1) hf0_1 (by omega) ho9); rw [if_neg (by omega), if_neg (by omega), if_pos hr] at h9; rw [fold_step (by omega), hn9, insU_insR]; exact h9), (fun q hq => by rw [fold_step (by omega)] at hq; have := insU_row hf0_2 q hq; omega)⟩ ⟨rfl, rfl, rfl, rfl, rfl, rfl, trivial⟩ ⟨rfl, rfl, rfl, rfl, rfl, rfl, rfl, rfl, rfl, trivial⟩ ?_
      omega
  · intro hc2
    have hc2 := of_decide_eq_false hc2
    have hz0 : i = ps.length := by omega
    refine Qe<|Qs<|Qp<|(QD 1) ?_
    refine e_freeze 2 [(0, _), (1, _), (50, _), (51, _), (52, _), (53, _), (54, _), (55, _)] rfl rfl (by repeat (first | exact bag_nil | exact bag_lab _ | apply bag_skip rfl)) ⟨rfl, rfl, rfl, rfl, rfl, rfl, rfl, rfl, trivial⟩ rfl rfl ?_
    simp only [catL]
    refine e_freeze 50 [(0, _), (1, _), (51, _), (52, _), (53, _), (54, _), (55, _)] rfl rfl (by repeat (first | exact bag_nil | exact bag_lab _ | apply bag_skip rfl)) ⟨rfl, rfl, rfl, rfl, rfl, rfl, rfl, trivial⟩ rfl rfl ?_
    simp only [catL]
    refine e_freeze 51 [(0, _), (1, _), (52, _), (53, _), (54, _), (55, _)] rfl rfl (by repeat (first | exact bag_nil | exact bag_lab _ | apply bag_skip rfl)) ⟨rfl, rfl, rfl, rfl, rfl, rfl, trivial⟩ rfl rfl ?_
    simp only [catL]
    refine e_freeze 52 [(0, _), (1, _), (53, _), (54, _), (55, _)] rfl rfl (by repeat (first | exact bag_nil | exact bag_lab _ | apply bag_skip rfl)) ⟨rfl, rfl, rfl, rfl, rfl, trivial⟩ rfl rfl ?_
    simp only [catL]
    refine e_freeze 53 [(0, _), (1, _), (54, _), (55, _)] rfl rfl (by repeat (first | exact bag_nil | exact bag_lab _ | apply bag_skip rfl)) ⟨rfl, rfl, rfl, rfl, trivial⟩ rfl rfl ?_
    simp only [catL]
    refine e_freeze 54 [(0, _), (1, _), (55, _)] rfl rfl (by repeat (first | exact bag_nil | exact bag_lab _ | apply bag_skip rfl)) ⟨rfl, rfl, rfl, trivial⟩ rfl rfl ?_
    simp only [catL]
    refine e_freeze 55 [(0, _), (1, _)] rfl rfl (by repeat (first | exact bag_nil | exact bag_lab _ | apply bag_skip rfl)) ⟨rfl, rfl, trivial⟩ rfl rfl ?_
    simp only [catL]
    refine e_storeA (i := 0) (Uz 26) rfl rfl (arrv_size _ _) (catOkP (shows_oneC ho3_2.shows) (shows_oneC hA.shows) (shows_oneC hB.shows) rfl) rfl cells_sz (.inl rfl) ?_
    refine (Qa)<|Qn<|Qr ?_
    exact ⟨_, _, _, ((((((([] ++ oz3_2.toList) ++ oa.toList) ++ ob.toList) ++ p0.toList) ++ p1.toList) ++ p2.toList) ++ (some ⟨rT, arrv (bU l).length TF1, 22⟩).toList), rfl, .cell (i := 0) rfl rfl (Uu 26) rfl (Uz 26) (arrv_size _ _), .tmp rfl, (by (have hR9 := hf0_1); rw [hz0, List.take_length] at hR9; exact with_pat (own_fix ho3_2 (Nat.zero_add _) rfl) hA hB hR9 (by rw [foldU_len]) (by intro o ho x hx; simp only [List.mem_cons, List.not_mem_nil, or_false] at ho; rcases ho with rfl | rfl | rfl | rfl | rfl | rfl <;> repeat (first | exact List.mem_append_right _ hx | apply List.mem_append_left)) (List.mem_append_right _ (List.mem_singleton.2 rfl))), (by repeat (first | exact bag_nil | exact bag_lab _ | apply bag_skip rfl))⟩
end Go.Proofs.YtejejmhbhegneaaDoor
namespace Go.Proofs.YtejejmhbhegneaaDoor
open Go Go.RowKit
variable {G : Mem}
set_option maxHeartbeats 400000 in
theorem sameInts_fn (va vb : Value) (a b : List Int) (ha : Shows G 1 va a.length (a.map iv)) (hb : Shows G 1 vb b.length (b.map iv)) (hz : a.length ≤ 9223372036854775807) : Fn Tryd.prog G 26 #[va, vb] (.bool (decide (a = b))) := by
  refine Qf1 Tryd.func26 ?_
  refine Qs<|Qp<|(Qa)<|Qn<|Qs<|Qs<|Qp<|(Qm)<|(QC ha)<|(Qm)<|(QC hb)<|(QN)<|Qn ?_
  refine e_cond rfl ?_ ?_
  · intro hc0
    have hne := of_decide_eq_true hc0
    refine Qs<|Qp<|(Qa)<|Qn<|Qr ?_
    first | rw [show decide (a = b) = false from decide_eq_false (fun h => hne (by rw [h]))] | rw [show decide (a = b) = false from decide_eq_false (fun h => hq (by rw [h]))] | rw [show decide (a = b) = true from decide_eq_true (ints_ext hlen (fun j hj => hf0_1 j (by omega)))]
    exact ⟨_, rfl, .tmp rfl⟩
  · intro hc0
    have hlen : a.length = b.length := by have := of_decide_eq_false hc0; omega
    refine Qk<|Qs<|Qs<|Qp<|(Qm)<|(QC ha)<|(Qm)<|Qn<|Qb ?_
    refine QzK [(0, _), (1, _), (12, _)] [] (fun kk E m => ∃ (i : Nat), kk = a.length - i ∧ E = [(13, ii i)] ∧ m = [] ∧ (i ≤ a.length) ∧ (∀ j, j < i → a.getD j 0 = b.getD j 0) ∧ (a.length = b.length)) ⟨0, rfl, rfl, rfl, by omega, fun j hj => absurd hj (Nat.not_lt_zero j), hlen⟩ ⟨rfl, rfl, rfl, rfl, trivial⟩ trivial ?_
    rintro kk E m ⟨i, rfl, rfl, rfl, hf0_0, hf0_1, hf0_2⟩
    simp only [catE, catL]
    refine Qs<|Qp<|(Ql)<|Qn<|Qs ?_
    refine e_cond rfl ?_ ?_
    · intro hc1
      have hc1 : i < a.length := by have := of_decide_eq_true hc1; omega
      refine Qk<|Qs<|Qb<|Qs<|Qp<|(Qm)<|(Qa)<|Qn<|Qs<|(Qg)<|(Qm)<|(Qm) ?_
      refine e_atV ha (Uu 22) (Uz 3) rfl rfl (by omega) rfl ?_
      refine (QS) ?_
      refine e_loadV ha seenG (Uu 3) rfl rfl (iv_at (by omega)) rfl ?_
      refine (Qm)<|(Qm) ?_
      refine e_atV hb (Uu 22) (Uz 3) rfl rfl (by omega) rfl ?_
      refine (QS) ?_
      refine e_loadV hb seenG (Uu 3) rfl rfl (iv_at (by omega)) rfl ?_
      refine (QN)<|Qn ?_
      refine e_cond rfl ?_ ?_
      · intro hc2
        have hq := of_decide_eq_true hc2
        refine Qs<|Qp<|(Qa)<|Qn<|Qr ?_
        first | rw [show decide (a = b) = false from decide_eq_false (fun h => hne (by rw [h]))] | rw [show decide (a = b) = false from decide_eq_false (fun h => hq (by rw [h]))] | rw [show decide (a = b) = true from decide_eq_true (ints_ext hlen (fun j hj => hf0_1 j (by omega)))]
        exact ⟨_, rfl, .tmp rfl⟩
      · intro hc2
        have hq : a.getD i 0 = b.getD i 0 := by have := of_decide_eq_false hc2; omega
        refine Qk<|Qp<|(Q2 1)<|(Qm)<|Qn ?_
        refine QzL ⟨i + 1, rfl, rfl, rfl, by omega, fun j hj => by rcases (by omega : j < i ∨ j = i) with h | rfl; exact hf0_1 j h; exact hq, hlen⟩ ⟨rfl, rfl, rfl, rfl, trivial⟩ trivial ?_
        omega
    · intro hc1
      have hc1 := of_decide_eq_false hc1
      have hz0 : i = a.length := by omega
      refine Qe<|Qs<|Qp<|(Qa)<|Qn<|Qr ?_
      first | rw [show decide (a = b) = false from decide_eq_false (fun h => hne (by rw [h]))] | rw [show decide (a = b) = false from decide_eq_false (fun h => hq (by rw [h]))] | rw [show decide (a = b) = true from decide_eq_true (ints_ext hlen (fun j hj => hf0_1 j (by omega)))]
      exact ⟨_, rfl, .tmp rfl⟩
set_option maxHeartbeats 4000000 in
theorem sameP_fn (ba : List Nat) (la : Bool) (vpa v0a v1a vta : Value) (tva : List Value) (pa q0a q1a : List Int) (ta : List (List Int)) (hbaz : ∀ x ∈ ba, x < 256) (hva : Shows G 1 vta tva.length tva) (hLa : ShowsLI G (vpa :: v0a :: v1a :: tva) (pa :: q0a :: q1a :: ta)) (bb : List Nat) (lb : Bool) (vpb v0b v1b vtb : Value) (tvb : List Value) (pb q0b q1b : List Int) (tb : List (List Int)) (hbbz : ∀ x ∈ bb, x < 256) (hvb : Shows G 1 vtb tvb.length tvb) (hLb : ShowsLI G (vpb :: v0b :: v1b :: tvb) (pb :: q0b :: q1b :: tb)) (hza : ta.length ≤ 9223372036854775807 ∧ ∀ l ∈ pa :: q0a :: q1a :: ta, l.length ≤ 9223372036854775807) : Fn Tryd.prog G 10 #[.agg (patC ba la vpa v0a v1a vta), .agg (patC bb lb vpb v0b v1b vtb)] (.bool (sameP ba bb la lb pa pb q0a q0b q1a q1b ta tb)) := by
  obtain ⟨ha0, ha1, ha2, ha3, ha4⟩ := li_three hLa
  obtain ⟨hB0, hB1, hB2, hB3, hB4⟩ := li_three hLb
  rw [ha3] at hva
  rw [hB3] at hvb
  have hz1 := hza.1
  refine Qf1 Tryd.func10 ?_
  refine Qs<|Qp<|(Qh 0) fun r1=>(Qh 1) fun r2=>(Qa)<|Qn<|Qs<|Qp ?_
  refine e_join [(0, _), (1, _), (2, _), (3, _), (4, _)] [(5, .bool (sp0 ba bb la lb ta.length tb.length pa pb q0a q0b q1a q1b))] [(0, some _), (1, some _)] ⟨rfl, rfl, rfl, rfl, rfl, trivial⟩ ⟨rfl, rfl, trivial⟩ ?_ ?_
  · skip
    refine (Qf 0)<|(QV 0 0)<|(Qf 0)<|(QV 0 1) ?_
    refine e_eqStr rfl rfl rfl hbaz hbbz ?_
    refine (Qm) ?_
    refine e_case (fun hb0 => ?_) (fun hb0 => ?_)
    · skip
      refine (Qy)<|(Qf 1)<|(Qy)<|(QV 1 0)<|(Qy)<|(Qf 1)<|(Qy)<|(QV 1 1)<|(Qy) ?_
      refine e_eqB (Uu 4) rfl rfl rfl ?_
      refine (QT)<|(Qm) ?_
      refine e_case (fun hb1 => ?_) (fun hb1 => ?_)
      · skip
        refine (Qy)<|(Qf 5)<|(Qy)<|(QV 5 0)<|(Qy)<|(QC hva)<|(Qy)<|(Qf 5)<|(Qy)<|(QV 5 1)<|(Qy)<|(QC hvb)<|(Qy)<|(Qc)<|(QT)<|(Qm) ?_
        refine e_case (fun hb2 => ?_) (fun hb2 => ?_)
        · skip
          refine (Qy)<|(Qf 2)<|(Qy)<|(QV 2 0)<|(Qy)<|(Qf 2)<|(Qy)<|(QV 2 1)<|(Qy) ?_
          refine e_call rfl (Un 26) (sameInts_fn vpa vpb pa pb ha0 hB0 (hza.2 pa (by simp))) rfl rfl ?_
          refine (QT)<|(Qm) ?_
          refine e_case (fun hb3 => ?_) (fun hb3 => ?_)
          · skip
            refine (Qy)<|(Qf 3)<|(Qy)<|(QA 3 0)<|(Qy)<|(QV 3 0)<|(Qy)<|(Qf 3)<|(Qy)<|(QA 3 0)<|(Qy)<|(QV 3 1)<|(Qy) ?_
            refine e_call rfl (Un 26) (sameInts_fn v0a v0b q0a q0b ha1 hB1 (hza.2 q0a (by simp))) rfl rfl ?_
            refine (QT)<|(Qm) ?_
            refine e_case (fun hb4 => ?_) (fun hb4 => ?_)
            · skip
              refine (Qy)<|(Qf 3)<|(Qy)<|(QA 4 1)<|(Qy)<|(QV 4 0)<|(Qy)<|(Qf 3)<|(Qy)<|(QA 4 1)<|(Qy)<|(QV 4 1)<|(Qy) ?_
              refine e_call rfl (Un 26) (sameInts_fn v1a v1b q1a q1b ha2 hB2 (hza.2 q1a (by simp))) rfl rfl ?_
              refine (QT)<|(Qa)<|Qn ?_
              exact ⟨⟨rfl, rfl, rfl, rfl, rfl, trivial⟩, ⟨bool_fin (by rw [sp0, hb0, hb1, hb2, hb3, hb4] <;> rfl), trivial⟩, ⟨rfl, rfl, trivial⟩⟩
            · skip
              refine (Qo)<|(Qo)<|(Qo)<|(Qo)<|(Qo)<|(Qo)<|(Qo)<|(QF)<|(Qa)<|Qn ?_
              exact ⟨⟨rfl, rfl, rfl, rfl, rfl, trivial⟩, ⟨bool_fin (by rw [sp0, hb0, hb1, hb2, hb3, hb4] <;> rfl), trivial⟩, ⟨rfl, rfl, trivial⟩⟩
          · skip
            refine (Qo)<|(Qo)<|(Qo)<|(Qo)<|(Qo)<|(Qo)<|(Qo)<|(QF)<|(Qm)<|(Qo)<|(Qo)<|(Qo)<|(Qo)<|(Qo)<|(Qo)<|(Qo)<|(QF)<|(Qa)<|Qn ?_
            exact ⟨⟨rfl, rfl, rfl, rfl, rfl, trivial⟩, ⟨bool_fin (by rw [sp0, hb0, hb1, hb2, hb3] <;> rfl), trivial⟩, ⟨rfl, rfl, trivial⟩⟩
        · skip
          refine (Qo)<|(Qo)<|(Qo)<|(Qo)<|(Qo)<|(QF)<|(Qm)<|(Qo)<|(Qo)<|(Qo)<|(Qo)<|(Qo)<|(Qo)<|(Qo)<|(QF)<|(Qm)<|(Qo)<|(Qo)<|(Qo)<|(Qo)<|(Qo)<|(Qo)<|(Qo)<|(QF)<|(Qa)<|Qn ?_
          exact ⟨⟨rfl, rfl, rfl, rfl, rfl, trivial⟩, ⟨bool_fin (by rw [sp0, hb0, hb1, hb2] <;> rfl), trivial⟩, ⟨rfl, rfl, trivial⟩⟩
      · skip
        refine (Qo)<|(Qo)<|(Qo)<|(Qo)<|(Qo)<|(Qo)<|(Qo)<|(QF)<|(Qm)<|(Qo)<|(Qo)<|(Qo)<|(Qo)<|(Qo)<|(QF)<|(Qm)<|(Qo)<|(Qo)<|(Qo)<|(Qo)<|(Qo)<|(Qo)<|(Qo)<|(QF)<|(Qm)<|(Qo)<|(Qo)<|(Qo)<|(Qo)<|(Qo)<|(Qo)<|(Qo)<|(QF)<|(Qa)<|Qn ?_
        exact ⟨⟨rfl, rfl, rfl, rfl, rfl, trivial⟩, ⟨bool_fin (by rw [sp0, hb0, hb1] <;> rfl), trivial⟩, ⟨rfl, rfl, trivial⟩⟩
    · skip
      refine (Qo)<|(Qo)<|(Qo)<|(Qo)<|(Qo)<|(QF)<|(Qm)<|(Qo)<|(Qo)<|(Qo)<|(Qo)<|(Qo)<|(Qo)<|(Qo)<|(QF)<|(Qm)<|(Qo)<|(Qo)<|(Qo)<|(Qo)<|(Qo)<|(QF)<|(Qm)<|(Qo)<|(Qo)<|(Qo)<|(Qo)<|(Qo)<|(Qo)<|(Qo)<|(QF)<|(Qm)<|(Qo)<|(Qo)<|(Qo)<|(Qo)<|(Qo)<|(Qo)<|(Qo)<|(QF)<|(Qa)<|Qn ?_
      exact ⟨⟨rfl, rfl, rfl, rfl, rfl, trivial⟩, ⟨bool_fin (by rw [sp0, hb0] <;> rfl), trivial⟩, ⟨rfl, rfl, trivial⟩⟩
  · simp only [catE]
    refine Qs<|Qs<|Qp<|(Qa)<|Qn<|Qb ?_
    refine QzK [(2, _), (3, _), (4, _)] [(0, _), (1, _)] (fun kk E m => ∃ (k : Nat) (ok : Bool), kk = ta.length - k ∧ E = [(5, .bool ok), (6, ii k)] ∧ m = [] ∧ (k ≤ ta.length) ∧ (ok = spk (sp0 ba bb la lb ta.length tb.length pa pb q0a q0b q1a q1b) ta tb k)) ⟨0, (sp0 ba bb la lb ta.length tb.length pa pb q0a q0b q1a q1b), rfl, rfl, rfl, by omega, (spk_zero _ _ _)⟩ ⟨rfl, rfl, rfl, rfl, rfl, trivial⟩ ⟨rfl, rfl, trivial⟩ ?_
    rintro kk E m ⟨k, ok, rfl, rfl, rfl, hf0_0, hf0_1⟩
    simp only [catE, catL]
    refine Qs<|Qs<|Qp ?_
    refine e_join [(2, _), (3, _), (4, _), (5, _), (6, _)] [(60, .bool (ok && decide ((k : Int) < (ta.length : Int))))] [(0, some _), (1, some _)] ⟨rfl, rfl, rfl, rfl, rfl, trivial⟩ ⟨rfl, rfl, trivial⟩ ?_ ?_
    · skip
      refine (Qm)<|(Qm) ?_
      refine e_case (fun hb5 => ?_) (fun hb5 => ?_)
      · skip
        refine (Qy)<|(Qm)<|(Qy)<|(Qf 5)<|(Qy)<|(QV 5 0)<|(Qy)<|(QC hva)<|(Qy)<|(Ql)<|(QT)<|Qn ?_
        exact ⟨⟨rfl, rfl, rfl, rfl, rfl, trivial⟩, ⟨bool_fin (by rw [hb5] <;> rfl), trivial⟩, ⟨rfl, rfl, trivial⟩⟩
      · skip
        refine (Qo)<|(Qo)<|(Qo)<|(Qo)<|(Qo)<|(QF)<|Qn ?_
        exact ⟨⟨rfl, rfl, rfl, rfl, rfl, trivial⟩, ⟨bool_fin (by rw [hb5] <;> rfl), trivial⟩, ⟨rfl, rfl, trivial⟩⟩
    · simp only [catE]
      refine e_cond rfl ?_ ?_
      · intro hc0
        obtain ⟨hok, hkl⟩ := and_true2 hc0
        have hlen := sp0_len (spk_sp (hf0_1.symm.trans hok))
        refine Qk<|Qs<|Qb<|(Qg)<|(Qf 5)<|(QV 5 0)<|(Qm) ?_
        refine e_atV hva (Uu 24) (Uz 22) rfl rfl (by omega) rfl ?_
        refine (QS) ?_
        refine e_loadV hva seenG (Uu 22) rfl rfl (val_at (by omega)) rfl ?_
        refine (Qf 5)<|(QV 5 1)<|(Qm) ?_
        refine e_atV hvb (Uu 24) (Uz 22) rfl rfl (by omega) rfl ?_
        refine (QS) ?_
        refine e_loadV hvb seenG (Uu 22) rfl rfl (val_at (by omega)) rfl ?_
        refine e_call rfl (Un 26) (sameInts_fn _ _ (ta.getD k []) (tb.getD k []) (ha4 k (by omega)) (hB4 k (by omega)) (lt_all (fun l h => hza.2 l (by simp [h])) k)) rfl rfl ?_
        refine (Qa)<|Qn<|Qp<|(Qm)<|(Q2 1)<|(Qa)<|Qn ?_
        refine QzL ⟨k + 1, _, rfl, rfl, rfl, by omega, (spk_next (hf0_1.symm.trans hok))⟩ ⟨rfl, rfl, rfl, rfl, rfl, trivial⟩ ⟨rfl, rfl, trivial⟩ ?_
        omega
      · intro hc0
        have hfin := sameP_fin hf0_1 hf0_0 hc0
        refine Qe<|Qs<|Qp<|(Qm)<|(Qa)<|Qn<|Qr ?_
        rw [← hfin]
        exact ⟨_, rfl, .tmp rfl⟩
end Go.Proofs.YtejejmhbhegneaaDoor
namespace Go.Proofs.YtejejmhbhegneaaDoor
open Go Go.RowKit
variable {G : Mem}
set_option maxHeartbeats 2000000 in
theorem patternWiths_err (v : Value) (l : List Nat) (e : Nat) (hD : Fn Tryd.prog G 8 #[sv l, v] (.tuple #[.agg (cells 6 [pV (.string ByteArray.empty), pV (.bool false), pV nilS, pV nilS, pV nilS, pV nilS]), ii e])) (hE : Fn Tryd.prog G 9 #[sv l, v] (.tuple #[.agg (cells 6 [pV (.string ByteArray.empty), pV (.bool false), pV nilS, pV nilS, pV nilS, pV nilS]), ii e])) : Fn Tryd.prog G 3 #[sv l, v] (.bool true) := by
  refine Qf1 Tryd.func3 ?_
  refine Qs<|Qp<|(Qa)<|Qn<|Qs<|Qp<|(Qm)<|(Qm) ?_
  refine e_call rfl (Un 8) hD rfl rfl ?_
  refine (Qm)<|(Qx)<|(Qx)<|(QH 0) fun r1=>?_
  refine e_storeA (i := 0) (Uz 26) rfl rfl (arrv_size _ _) (cells_one ⟨fun _ => rfl, fun _ => rfl, fun _ => rfl, fun _ => rfl, fun _ => rfl, fun _ => rfl, trivial⟩) rfl cells_sz (.inl rfl) ?_
  refine (Qa)<|Qn<|Qs<|Qp<|(Qm)<|(Qm) ?_
  refine e_call rfl (Un 9) hE rfl rfl ?_
  refine (Qm)<|(Qx)<|(Qx)<|(QH 1) fun r2=>?_
  refine e_storeA (i := 1) (Uz 26) rfl rfl (arrv_size _ _) (cells_one ⟨fun _ => rfl, fun _ => rfl, fun _ => rfl, fun _ => rfl, fun _ => rfl, fun _ => rfl, trivial⟩) rfl cells_sz (.inl rfl) ?_
  refine (Qa)<|Qn<|Qs<|Qp<|(QD 0)<|(QD 1) ?_
  refine e_call rfl (Un 10) (sameP_fn [] false nilS nilS nilS nilS [] [] [] [] [] (by simp) (.inl ⟨rfl, rfl, none, 0, rfl, fun _ => rfl⟩) li_nils [] false nilS nilS nilS nilS [] [] [] [] [] (by simp) (.inl ⟨rfl, rfl, none, 0, rfl, fun _ => rfl⟩) li_nils (by simp)) rfl rfl ?_
  refine e_as (congrArg Value.bool (sameP_self _ _ _ _ _ _)) ?_
  refine (Qm)<|(Qy)<|(Qm)<|(Qy)<|(Qm)<|(Qy)<|(Qc)<|(Qar)<|(QT)<|(Qa)<|Qn<|Qr ?_
  exact ⟨_, rfl, .tmp rfl⟩
set_option maxHeartbeats 4000000 in
theorem patternWithsI_ok (v : Value) (l : List Nat) (ps : List Int) (b : Bool) (q0 q1 : List Nat) (us : List (List Nat)) (hb8 : ∀ x ∈ l, x < 256) (hv : Shows G 1 v ps.length (ps.map iv)) (hz : us.length ≤ 9223372036854775807 ∧ ps.length ≤ 9223372036854775807 ∧ q0.length ≤ 9223372036854775807 ∧ q1.length ≤ 9223372036854775807 ∧ ∀ q ∈ us, q.length ≤ 9223372036854775807) (hD : Fx Tryd.prog G [] 8 #[sv l, v] (fun w l1 nw => l1 = [] ∧ ∃ w', w = .tuple #[w', ii 0] ∧ PatIsI l b ps q0 q1 us w' nw)) (hE : Fx Tryd.prog G [] 9 #[sv l, v] (fun w l1 nw => l1 = [] ∧ ∃ w', w = .tuple #[w', ii 0] ∧ PatIs l b v q0 q1 us w' nw)) : Fn Tryd.prog G 3 #[sv l, v] (.bool true) := by
  refine Qf1 Tryd.func3 ?_
  refine Qs<|Qp<|(Qa)<|Qn<|Qs<|QR ⟨[], 4, [], none⟩<|(Qm)<|(Qm) ?_
  refine e_callD [] (by repeat (first | exact bag_nil | exact bag_lab _ | apply bag_skip rfl)) trivial rfl rfl rfl (Un 8) seenG hD (pat_roomI l b ps q0 q1 us) rfl rfl fun v1_1 nw1_1 hD1_1 => ?_
  simp only [catL]
  obtain ⟨_, rfl, vp1, hp1, va1, vb1, vt1, tv1, rfl, ha1, hb1, ht1, hn1, hl1⟩ := hD1_1
  refine (Qm)<|(Qx)<|(Qx)<|(QH 0) fun r1=>?_
  refine e_storeA (i := 0) (Uz 26) rfl rfl (arrv_size _ _) (catOkP (shows_oneC hp1) (shows_oneC ha1) (shows_oneC hb1) (shows_oneC ht1)) rfl cells_sz (.inl rfl) ?_
  refine (Qa)<|Qn<|Qs<|QR ⟨[], 4, [], none⟩<|(Qm)<|(Qm) ?_
  refine e_callD [(0, _)] (by repeat (first | exact bag_nil | exact bag_lab _ | apply bag_skip rfl)) ⟨rfl, trivial⟩ rfl rfl rfl (Un 9) seenG hE (pat_room l b v q0 q1 us) rfl rfl fun v1_2 nw1_2 hD1_2 => ?_
  simp only [catL]
  obtain ⟨_, rfl, va2, vb2, vt2, tv2, rfl, ha2, hb2, ht2, hn2, hl2⟩ := hD1_2
  refine (Qm)<|(Qx)<|(Qx)<|(QH 1) fun r2=>?_
  refine e_storeA (i := 1) (Uz 26) rfl rfl (arrv_size _ _) (catOkP (shows_oneC hv) (shows_oneC ha2) (shows_oneC hb2) (shows_oneC ht2)) rfl cells_sz (.inl rfl) ?_
  refine (Qa)<|Qn<|Qs<|Qp<|(QD 0)<|(QD 1) ?_
  refine e_callS rfl rfl (Un 10) (seen_app seenG (seen_bag (by repeat (first | exact bag_nil | exact bag_lab _ | apply bag_skip rfl)) rfl)) (sameP_fn (G := G ++ (([] ++ nw1_1) ++ nw1_2)) l b vp1 va1 vb1 vt1 tv1 ps (ci q0) (ci q1) (us.map ci) hb8 (by rw [hn1]; exact ht1.mono (fun x hx => List.mem_append_right _ (List.mem_append_left _ (List.mem_append_right _ hx)))) (pat_li (hp1.mono (fun x hx => List.mem_append_right _ (List.mem_append_left _ (List.mem_append_right _ hx)))) (ha1.mono (fun x hx => List.mem_append_right _ (List.mem_append_left _ (List.mem_append_right _ hx)))) (hb1.mono (fun x hx => List.mem_append_right _ (List.mem_append_left _ (List.mem_append_right _ hx)))) (li_mono hl1 (fun x hx => List.mem_append_right _ (List.mem_append_left _ (List.mem_append_right _ hx))))) l b v va2 vb2 vt2 tv2 ps (ci q0) (ci q1) (us.map ci) hb8 (by rw [hn2]; exact ht2.mono (fun x hx => List.mem_append_right _ (List.mem_append_right _ hx))) (pat_li (hv.mono (fun x hx => List.mem_append_left _ hx)) (ha2.mono (fun x hx => List.mem_append_right _ (List.mem_append_right _ hx))) (hb2.mono (fun x hx => List.mem_append_right _ (List.mem_append_right _ hx))) (li_mono hl2 (fun x hx => List.mem_append_right _ (List.mem_append_right _ hx)))) (pat_sizes hz)) rfl rfl ?_
  refine e_as (congrArg Value.bool (sameP_self _ _ _ _ _ _)) ?_
  refine (Qm)<|(Qy)<|(Qm)<|(Qy)<|(Qm)<|(Qy)<|(Qc)<|(Qar)<|(QT)<|(Qa)<|Qn<|Qr ?_
  exact ⟨_, rfl, .tmp rfl⟩
end Go.Proofs.YtejejmhbhegneaaDoor
namespace Go.Proofs.YtejejmhbhegneaaDoor
open Go Go.RowKit
theorem xindex (l : List Nat) (c : Nat) (hl : ∀ b ∈ l, b < 256) (hc : c < 256) (w : World) : (callFunc 75 #[sv l, by8 c]).run Tryd.prog w = .ok (.value (ixv (ixb l c))) w := by
  rw [run_callFunc_extern Tryd.func75 (by kernel_rfl) (by kernel_rfl) (by kernel_rfl) (e := Extern.BytealgIndexByte.indexByte) (by kernel_rfl), Lib.run_indexByteString]
  have h := lib_index hl hc
  rw [← h]
  simp [bstr, Result.andThen]
theorem xcount (l : List Nat) (c : Nat) (hl : ∀ b ∈ l, b < 256) (hc : c < 256) (w : World) : (callFunc 71 #[sv l, by8 c]).run Tryd.prog w = .ok (.value (ii (l.count c))) w := by
  rw [run_callFunc_extern Tryd.func71 (by kernel_rfl) (by kernel_rfl) (by kernel_rfl) (e := Extern.BytealgCount.count) (by kernel_rfl), Lib.run_countString]
  have h := lib_count hl hc
  rw [← h]
  simp [bstr, Result.andThen]
variable {G : Mem}
set_option maxHeartbeats 400000 in
theorem ixbyte_fn (l : List Nat) (c : Nat) (hl : ∀ b ∈ l, b < 256) (hc : c < 256) : Fn Tryd.prog G 56 #[sv l, by8 c] (ixv (ixb l c)) := by
  refine Qf1 Tryd.func56 ?_
  refine Qs<|Qp<|(Qa)<|Qn<|Qs<|Qp<|(Qm)<|(Qm) ?_
  refine e_callE rfl (xindex l c hl hc) rfl rfl ?_
  refine (Qa)<|Qn<|Qr ?_
  exact ⟨_, rfl, .tmp rfl⟩
set_option maxHeartbeats 400000 in
theorem lindex1_fn (l : List Nat) (c : Nat) (hl : ∀ b ∈ l, b < 256) (hc : c < 256) : Fn Tryd.prog G 41 #[sv l, sv [c]] (ixv (ixb l c)) := by
  refine Qf1 Tryd.func41 ?_
  refine Qs<|Qp<|(Qa)<|Qn<|Qs<|Qp<|(Qm)<|(QU) ?_
  refine e_as (show _ = ii 1 from rfl) ?_
  refine (Qa)<|Qn<|Qs<|Qb<|Qs<|Qp ?_
  refine e_join [(0, _), (1, _), (4, _), (5, _), (14, _), (15, _)] [(16, .bool (decide ([c] = l)))] [] ⟨rfl, rfl, rfl, rfl, rfl, rfl, trivial⟩ trivial ?_ ?_
  · skip
    refine (Qm)<|(Qc)<|(Qm) ?_
    refine e_case (fun hb0 => ?_) (fun hb0 => ?_)
    · skip
      refine (Qo)<|(Qo)<|(Qo)<|(QT)<|(Qa)<|Qn ?_
      exact ⟨⟨rfl, rfl, rfl, rfl, rfl, rfl, trivial⟩, ⟨bool_fin (by first | exact absurd hb0 (by decide) | rfl), trivial⟩, trivial⟩
    · skip
      refine (Qy)<|(Qm)<|(Qy)<|(Qm)<|(Qy) ?_
      refine e_eqStr rfl rfl rfl (by simpa using hc) hl ?_
      refine (QF)<|(Qa)<|Qn ?_
      exact ⟨⟨rfl, rfl, rfl, rfl, rfl, rfl, trivial⟩, ⟨bool_fin (by first | exact absurd hb0 (by decide) | rfl), trivial⟩, trivial⟩
  · simp only [catE]
    refine e_cond rfl ?_ ?_
    · intro hc0
      have hc0 := of_decide_eq_true hc0
      refine Qs<|Qp<|(Qa)<|Qn<|Qr ?_
      first | (rw [← hc0, show ixb [c] c = some 0 by rw [ixb, if_pos rfl]]) | skip
      exact ⟨_, rfl, .tmp rfl⟩
    · intro hc0
      refine Qs<|Qp<|(Qm)<|(Qc)<|(Qat)<|(Qa)<|Qn<|(Qct)<|Qs<|Qp<|(Qm)<|(Qm) ?_
      refine e_idxStr (Uu 9) rfl rfl rfl hc rfl ?_
      refine e_call rfl (Un 56) (ixbyte_fn l c hl hc) rfl rfl ?_
      refine (Qa)<|Qn<|Qr ?_
      first | (rw [← hc0, show ixb [c] c = some 0 by rw [ixb, if_pos rfl]]) | skip
      exact ⟨_, rfl, .tmp rfl⟩
set_option maxHeartbeats 400000 in
theorem index1_fn (l : List Nat) (c : Nat) (hl : ∀ b ∈ l, b < 256) (hc : c < 256) : Fn Tryd.prog G 28 #[sv l, sv [c]] (ixv (ixb l c)) := by
  refine Qf1 Tryd.func28 ?_
  refine Qs<|Qp<|(Qa)<|Qn<|Qs<|Qp<|(Qm)<|(Qm) ?_
  refine e_call rfl (Un 41) (lindex1_fn l c hl hc) rfl rfl ?_
  refine (Qa)<|Qn<|Qr ?_
  exact ⟨_, rfl, .tmp rfl⟩
set_option maxHeartbeats 400000 in
theorem count1_fn (l : List Nat) (c : Nat) (hl : ∀ b ∈ l, b < 256) (hc : c < 256) : Fn Tryd.prog G 48 #[sv l, sv [c]] (ii (l.count c)) := by
  refine Qf1 Tryd.func48 ?_
  refine Qs<|Qp<|(Qa)<|Qn<|Qs<|Qs<|Qp<|(Qm)<|(QU) ?_
  refine e_as (show _ = ii 1 from rfl) ?_
  refine (Qc)<|(Qaf)<|Qn<|(Qcf)<|Qk<|Qs<|Qs<|Qp<|(Qm)<|(QU) ?_
  refine e_as (show _ = ii 1 from rfl) ?_
  refine (Qc)<|(Qat)<|Qn<|(Qct)<|Qs<|Qp<|(Qm)<|(Qm) ?_
  refine e_idxStr (Uu 9) rfl rfl rfl hc rfl ?_
  refine e_callE rfl (xcount l c hl hc) rfl rfl ?_
  refine (Qa)<|Qn<|Qr ?_
  exact ⟨_, rfl, .tmp rfl⟩
end Go.Proofs.YtejejmhbhegneaaDoor
namespace Go.Proofs.YtejejmhbhegneaaDoor
open Go Go.RowKit
variable {G : Mem}
set_option maxHeartbeats 2000000 in
theorem gsplit_fn (l : List Nat) (c : Nat) (hl : ∀ b ∈ l, b < 256) (hc : c < 256) (hz : l.length ≤ 1000000) : Fx Tryd.prog G [] 35 #[sv l, sv [c], ii 0, .int .i64 (-1)] (fun v l1 nw => l1 = [] ∧ ∃ v', v = v' ∧ OwnS 9 1 v' (splitB l c).length ((splitB l c).map sv) nw) := by
  have hcl := List.count_le_length (a := c) (l := l)
  have hsl := splitB_len l c
  refine QfN Tryd.func35 ?_
  refine Qs<|Qp<|(Qa)<|Qn<|Qs<|Qs<|Qp<|(Qm)<|(Qc)<|(Qaf)<|Qn<|(Qcf)<|Qk<|Qs<|Qs<|Qp<|(Qm) ?_
  refine e_eqStr (k := []) rfl rfl rfl (by simpa using hc) (by simp) ?_
  refine e_as (congrArg Value.bool (decide_eq_false (by simp))) ?_
  refine Qn<|(Qcf)<|Qk<|Qs<|Qs<|Qp<|(Qm)<|(Ql)<|(Qat)<|Qn<|(Qct)<|Qp<|(Qm)<|(Qm) ?_
  refine e_call rfl (Un 48) (count1_fn l c hl hc) rfl rfl ?_
  refine (Q2 1)<|(Qa)<|Qn<|Qs<|Qp<|(Qm)<|(Qm)<|(QU)<|(Q2 1) ?_
  refine e_min rfl rfl rfl rfl ?_
  refine e_as (congrArg ii (show min (l.count c + 1) (l.length + 1) = l.count c + 1 by omega)) ?_
  refine (Qa)<|Qn<|Qs<|Qp<|(Qm) ?_
  refine e_makeV 0 (Uu 47) (Uz 9) (Uy 9) (Ub 9) rfl rfl rfl (by omega) (by omega) rfl fun r1 => ?_
  refine (Qa)<|Qn<|Qs<|Qp<|(Qm) ?_
  refine e_sub_in (q := 1) rfl rfl rfl (by omega) (by omega) ?_
  refine (Qa)<|Qn<|Qs<|Qp<|(Qa)<|Qn<|Qs<|Qb ?_
  refine QzK [(1, _), (2, _), (3, _), (8, _), (9, _)] [] (fun kk E m => ∃ (k : Nat) (S : List Nat) (F : Nat → Value), kk = l.count c - k ∧ E = [(0, sv S), (10, ii k)] ∧ m = [(0, some ⟨r1, arrv (l.count c + 1) F, 9⟩)] ∧ (k + S.count c = l.count c) ∧ (∀ b ∈ S, b < 256) ∧ (splitB S c = (splitB l c).drop k) ∧ (∀ j, j < k → F j = sv ((splitB l c).getD j [])) ∧ (S.length ≤ l.length)) ⟨0, l, fun _ => sv [], rfl, rfl, rfl, by omega, hl, rfl, fun j hj => absurd hj (Nat.not_lt_zero j), by omega⟩ ⟨rfl, rfl, rfl, rfl, rfl, rfl, rfl, trivial⟩ ⟨rfl, trivial⟩ ?_
  rintro kk E m ⟨k, S, F, rfl, rfl, rfl, hf0_0, hf0_1, hf0_2, hf0_3, hf0_4⟩
  simp only [catE, catL]
  refine Qs<|Qs<|Qp<|(Qm)<|(Qm)<|(Ql)<|Qn ?_
  refine e_cond rfl ?_ ?_
  · intro hc3
    have hc3 := of_decide_eq_true hc3
    obtain ⟨i, hi, hil, hid⟩ := ixb_some (l := S) (c := c) (by omega)
    refine Qk<|Qb<|Qs<|Qp<|(Qm)<|(Qm) ?_
    refine e_call rfl (Un 28) (index1_fn S c hf0_1 hc) rfl rfl ?_
    refine e_as (congrArg ixv hi) ?_
    refine (Qa)<|Qn<|Qs<|Qs<|Qp<|(Qm)<|(Ql)<|Qn ?_
    refine e_cond rfl ?_ ?_
    · intro hc4
      exact absurd (of_decide_eq_true hc4) (by omega)
    · intro hc4
      refine Qk<|Qs<|Qp<|(Qm)<|(Qm)<|(Qm)<|(Qm)<|(Qm)<|(Q3) ?_
      refine e_sliceStr 0 i (Uu 9) rfl rfl rfl rfl ⟨_, rfl⟩ (by omega) (by omega) rfl ?_
      refine e_atSl (k) (Uu 47) (Uz 9) rfl rfl (by omega) (by omega) rfl ?_
      refine e_st1 (i := 0) (Uz 9) rfl rfl rfl rfl (by omega) (.inl rfl) ?_
      refine Qn<|Qs<|Qp<|(Qm)<|(Qm)<|(Qm)<|(QU) ?_
      refine e_as (show _ = ii 1 from rfl) ?_
      refine (Q3) ?_
      refine e_sliceStr (i + 1) S.length (Uu 9) rfl rfl rfl ⟨_, rfl⟩ rfl (by omega) (by omega) rfl ?_
      refine e_as (congrArg sv (show (S.drop (i + 1)).take (S.length - (i + 1)) = S.drop (i + 1) from List.take_of_length_le (by simp))) ?_
      refine (Qa)<|Qn<|Qp<|(Qm)<|(Q2 1)<|(Qa)<|Qn ?_
      refine QzL ⟨k + 1, S.drop (i + 1), updv F k (sv (S.take i)), rfl, rfl, rfl, by omega, fun b hb => hf0_1 b (List.mem_of_mem_drop hb), (split_step hf0_2 hi).2, fun j hj => by unfold updv; by_cases e : j = k; (rw [if_pos e, e, (split_step hf0_2 hi).1]); (rw [if_neg e]; exact hf0_3 j (by omega)), by rw [List.length_drop]; omega⟩ ⟨rfl, rfl, rfl, rfl, rfl, rfl, rfl, trivial⟩ ⟨rfl, trivial⟩ ?_
      omega
  · intro hc3
    have hc3 := of_decide_eq_false hc3
    obtain ⟨hs1, hs2⟩ := split_last hf0_2 (by omega)
    refine Qe<|Qs<|Qp<|(Qm)<|(Qm)<|(Qm) ?_
    refine e_atSl (k) (Uu 47) (Uz 9) rfl rfl (by omega) (by omega) rfl ?_
    refine e_st1 (i := 0) (Uz 9) rfl rfl rfl rfl (by omega) (.inl rfl) ?_
    refine Qn<|Qs<|Qp<|(Qm)<|(Qm)<|(Q2 1) ?_
    refine e_sliceS 0 (k + 1) (Uu 47) (Uz 9) rfl rfl rfl rfl ⟨_, rfl⟩ (by omega) (by omega) rfl ?_
    refine (Qa)<|Qn<|Qr ?_
    exact ⟨_, _, _, 0, rfl, .tmp rfl, (own_fix (own_texts (n := k + 1) (N := l.count c + 1) (F := updv F k (sv S)) hs2 (by omega) (by simp only [maxLen]; omega) (fun j hj => by unfold updv; by_cases e : j = k; (rw [if_pos e, e, hs1]); (rw [if_neg e]; exact hf0_3 j (by omega)))) hs2.symm rfl), rfl⟩
set_option maxHeartbeats 400000 in
theorem split_fn (l : List Nat) (c : Nat) (hl : ∀ b ∈ l, b < 256) (hc : c < 256) (hz : l.length ≤ 1000000) : Fx Tryd.prog G [] 23 #[sv l, sv [c]] (fun v l1 nw => l1 = [] ∧ ∃ v', v = v' ∧ OwnS 9 1 v' (splitB l c).length ((splitB l c).map sv) nw) := by
  refine QfN Tryd.func23 ?_
  refine Qs<|Qp<|(Qa)<|Qn<|Qs<|QR ⟨[], 4, [], none⟩<|(Qm)<|(Qm) ?_
  refine e_callN 0 (fun v => v) rfl rfl (Un 35) seenG (gsplit_fn l c hl hc hz) (by have := splitB_len l c; have := List.count_le_length (a := c) (l := l); simp only [maxLen]; omega) (by rw [List.length_map, Nat.mul_one]) rfl rfl fun v1_1 oz1_1 ho1_1 => ?_
  refine (Qa)<|Qn<|Qr ?_
  exact ⟨_, _, _, 0, rfl, .tmp rfl, ho1_1, rfl⟩
end Go.Proofs.YtejejmhbhegneaaDoor
namespace Go.Proofs.YtejejmhbhegneaaDoor
open Go Go.RowKit
variable {G : Mem}
set_option maxHeartbeats 4000000 in
theorem fields_fn (l : List Nat) (h7 : ∀ b ∈ l, b < 128) (hz : l.length ≤ 1000000) : Fx Tryd.prog ((⟨1, arr .u8 256 asp, 77⟩ : Blk) :: G) [] 37 #[sv l] (fun v l1 nw => l1 = [] ∧ ∃ v', v = v' ∧ OwnS 9 1 v' (fieldsL l).length ((fieldsL l).map sv) nw) := by
  have hl : ∀ b ∈ l, b < 256 := fun b hb => by have := h7 b hb; omega
  have hfl := fields_len l
  have hcl : cntF 1 l ≤ l.length := cntF_le 1 (by decide) l
  refine QfN Tryd.func37 ?_
  refine Qs<|Qp<|(Qa)<|Qn<|Qs<|Qp<|(Qa)<|Qn<|Qs<|Qp<|(Qa)<|Qn<|Qs<|Qp<|(Qa)<|Qn<|Qs<|Qs<|Qp<|(Qa)<|Qn<|Qb ?_
  refine QzK [(0, _), (2, _)] [] (fun kk E m => ∃ (i : Nat) (n : Nat) (ws : Nat) (sb : Nat), kk = l.length - i ∧ E = [(3, ii n), (4, ii ws), (5, by8 sb), (6, ii i)] ∧ m = [] ∧ (i ≤ l.length) ∧ (n + cntF ws (l.drop i) = cntF 1 l) ∧ (ws ≤ 1) ∧ (sb < 128)) ⟨0, 0, 1, 0, rfl, rfl, rfl, by omega, by rw [List.drop_zero]; omega, by omega, by omega⟩ ⟨rfl, rfl, rfl, rfl, rfl, rfl, trivial⟩ trivial ?_
  rintro kk E m ⟨i, n, ws, sb, rfl, rfl, rfl, hf0_0, hf0_1, hf0_2, hf0_3⟩
  simp only [catE, catL]
  have hai := asp_le (l.getD i 0)
  have hnc : n ≤ l.length := by omega
  have hm := bit_mul hf0_2 (asp (l.getD i 0))
  refine Qs<|Qs<|Qp<|(Qm)<|(Qm)<|(QU)<|(Ql)<|Qn ?_
  refine e_cond rfl ?_ ?_
  · intro hc0
    have hc0 : i < l.length := by have := of_decide_eq_true hc0; omega
    refine Qk<|Qs<|Qb<|Qs<|Qp<|(Qm)<|(Qm) ?_
    refine e_idxStr (Uu 9) rfl rfl (at_getD (show i < l.length by omega)) (getD_b hl _) rfl ?_
    refine (Qa)<|Qn<|Qs<|Qp<|(Qm)<|(Qm) ?_
    refine e_or_b rfl rfl rfl  ?_
    refine (Qa)<|Qn<|Qs<|Qp<|(Qm) ?_
    refine e_index0 (Uu 77) (Uz 5) rfl rfl (by have := getD_b hl i; omega) rfl ?_
    refine e_load1g (i := 0) (Uu 5) rfl rfl rfl (arr_get (by have := getD_b hl i; omega)) rfl ?_
    refine e_conv_i (Uu 5) (Uu 3) rfl rfl rfl (by omega) ?_
    refine (Qa)<|Qn<|Qs<|Qp<|(Qm)<|(Qm)<|(Qm) ?_
    refine e_compl_i (asp_le _) rfl rfl ?_
    refine e_andnot hf0_2 (asp_le _) rfl rfl rfl ?_
    refine (Q3)<|(Qa)<|Qn<|Qp<|(Qm)<|(Qa)<|Qn<|Qp<|(Qm)<|(Q2 1)<|(Qa)<|Qn ?_
    refine QzL ⟨i + 1, _, _, _, rfl, rfl, rfl, by omega, cnt_step hf0_1 (by omega), asp_le _, or_lt128 hf0_3 (getD_lt7 h7 i)⟩ ⟨rfl, rfl, rfl, rfl, rfl, rfl, trivial⟩ trivial ?_
    omega
  · intro hc0
    have hc0 := of_decide_eq_false hc0
    have hz0 : i = l.length := by omega
    obtain rfl := cnt_end hf0_1 hz0
    refine Qe<|Qs<|Qs<|Qp<|(Qm)<|(QE)<|(Qaf)<|Qn<|(Qcf)<|Qk<|Qs<|Qp<|(Qm) ?_
    refine e_makeV 0 (Uu 47) (Uz 9) (Uy 9) (Ub 9) rfl rfl rfl (by omega) (by omega) rfl fun r1 => ?_
    refine (Qa)<|Qn<|Qs<|Qp<|(Qa)<|Qn<|Qs<|Qp<|(Qa)<|Qn<|Qs<|Qp<|(Qa)<|Qn<|Qs<|Qb ?_
    refine QzK [(0, _), (2, _), (3, _), (4, _), (5, _), (6, _), (9, _), (10, _), (11, _)] [(0, _)] (fun kk E m => ∃ (p : Nat), kk = l.length - p ∧ E = [(12, ii p)] ∧ m = [] ∧ (p ≤ l.length) ∧ (fieldsL l = fldGo [] (l.drop p))) ⟨0, rfl, rfl, rfl, by omega, rfl⟩ ⟨rfl, rfl, rfl, rfl, rfl, rfl, rfl, rfl, rfl, rfl, trivial⟩ ⟨rfl, trivial⟩ ?_
    rintro kk E m ⟨p, rfl, rfl, rfl, hf1_0, hf1_1⟩
    simp only [catE, catL]
    refine Qs<|Qs<|Qp ?_
    refine e_join [(0, _), (2, _), (3, _), (4, _), (5, _), (6, _), (9, _), (10, _), (11, _), (12, _)] [(53, .bool (decide ((p : Int) < l.length) && decide ((asp (l.getD p 0) : Int) ≠ 0)))] [(0, some _)] ⟨rfl, rfl, rfl, rfl, rfl, rfl, rfl, rfl, rfl, rfl, trivial⟩ ⟨rfl, trivial⟩ ?_ ?_
    · skip
      refine (Qm)<|(Qm)<|(QU)<|(Ql)<|(Qm) ?_
      refine e_case (fun hb0 => ?_) (fun hb0 => ?_)
      · skip
        refine (Qy)<|(Qm)<|(Qy)<|(Qm)<|(Qy) ?_
        refine e_idxStr (Uu 9) rfl rfl (at_getD (by have := of_decide_eq_true hb0; omega)) (getD_b hl _) rfl ?_
        refine (Qy) ?_
        refine e_index0 (Uu 77) (Uz 5) rfl rfl (by have := getD_b hl p; omega) rfl ?_
        refine (Qy) ?_
        refine e_load1g (i := 0) (Uu 5) rfl rfl rfl (arr_get (by have := getD_b hl p; omega)) rfl ?_
        refine (Qy)<|(QN)<|(QT)<|Qn ?_
        exact ⟨⟨rfl, rfl, rfl, rfl, rfl, rfl, rfl, rfl, rfl, rfl, trivial⟩, ⟨bool_fin (by rw [hb0] <;> rfl), trivial⟩, ⟨rfl, trivial⟩⟩
      · skip
        refine (Qo)<|(Qo)<|(Qo)<|(Qo)<|(Qo)<|(Qo)<|(QF)<|Qn ?_
        exact ⟨⟨rfl, rfl, rfl, rfl, rfl, rfl, rfl, rfl, rfl, rfl, trivial⟩, ⟨bool_fin (by rw [hb0] <;> rfl), trivial⟩, ⟨rfl, trivial⟩⟩
    · simp only [catE]
      refine e_cond rfl ?_ ?_
      · intro hc2
        obtain ⟨hp1, hsp⟩ := two_true hc2
        refine Qk<|Qb<|Qp<|(Qm)<|(Q2 1)<|(Qa)<|Qn ?_
        refine QzL ⟨p + 1, rfl, rfl, rfl, by omega, (hf1_1.trans (fld_skip (by omega) hsp))⟩ ⟨rfl, rfl, rfl, rfl, rfl, rfl, rfl, rfl, rfl, rfl, trivial⟩ ⟨rfl, trivial⟩ ?_
        omega
      · intro hc2
        have hx1 := two_false hc2
        refine Qe<|Qs<|Qp<|(Qm)<|(Qa)<|Qn<|Qs<|Qb ?_
        refine QzK [(0, _), (2, _), (3, _), (4, _), (5, _), (6, _), (9, _)] [] (fun kk E m => ∃ (q : Nat) (fs : Nat) (na : Nat) (F : Nat → Value), kk = l.length - q ∧ E = [(10, ii na), (11, ii fs), (12, ii q)] ∧ m = [(0, some ⟨r1, arrv (cntF 1 l) F, 9⟩)] ∧ (fs ≤ q ∧ q ≤ l.length) ∧ (fldGo [] (l.drop fs) = (fieldsL l).drop na) ∧ (∀ j, j < na → F j = sv ((fieldsL l).getD j [])) ∧ (∀ j, fs ≤ j → j < q → asp (l.getD j 0) = 0) ∧ (q = fs → fs < l.length → asp (l.getD fs 0) = 0)) ⟨p, p, 0, fun _ => sv [], rfl, rfl, rfl, ⟨Nat.le_refl _, hf1_0⟩, (hf1_1.symm), fun j hj => absurd hj (Nat.not_lt_zero j), fun j h1 h2 => absurd h2 (by omega), fun _ h => hx1 h⟩ ⟨rfl, rfl, rfl, rfl, rfl, rfl, rfl, rfl, rfl, rfl, trivial⟩ ⟨rfl, trivial⟩ ?_
        rintro kk E m ⟨q, fs, na, F, rfl, rfl, rfl, hf2_0, hf2_1, hf2_2, hf2_3, hf2_4⟩
        simp only [catE, catL]
        refine Qs<|Qs<|Qp<|(Qm)<|(Qm)<|(QU)<|(Ql)<|Qn ?_
        refine e_cond rfl ?_ ?_
        · intro hc3
          have hq2 := of_decide_eq_true hc3
          refine Qk<|Qb<|Qs<|Qs<|Qp<|(Qm)<|(Qm) ?_
          refine e_idxStr (Uu 9) rfl rfl (at_getD (show q < l.length by omega)) (getD_b hl _) rfl ?_
          refine e_index0 (Uu 77) (Uz 5) rfl rfl (by have := getD_b hl q; omega) rfl ?_
          refine e_load1g (i := 0) (Uu 5) rfl rfl rfl (arr_get (by have := getD_b hl q; omega)) rfl ?_
          refine (Qc)<|Qn ?_
          refine e_cond rfl ?_ ?_
          · intro hc4
            have hsp0 : asp (l.getD q 0) = 0 := by have := of_decide_eq_true hc4; omega
            refine Qs<|Qp<|(Qm)<|(Q2 1)<|(Qa)<|Qn<|Qe ?_
            refine QzL ⟨_, _, _, _, rfl, rfl, rfl, (by omega), (by first | exact hf2_1 | exact hf3_1), (by first | exact hf2_2 | exact hs.2.2), (by first | exact no_more hf2_3 hsp0 | exact fun j h1 h2 => absurd h2 (by omega)), (by first | exact fun h => absurd h (by omega) | exact fun _ h => hx3 h)⟩ ⟨rfl, rfl, rfl, rfl, rfl, rfl, rfl, rfl, rfl, rfl, trivial⟩ ⟨rfl, trivial⟩ ?_
            omega
          · intro hc4
            have hsp0 : asp (l.getD q 0) ≠ 0 := by have := of_decide_eq_false hc4; omega
            have hs := fld_step hf2_1 hf2_2 (lt_start hf2_0.1 (by omega) hf2_4 hsp0) (by omega) hf2_3 hsp0
            refine Qk<|Qs<|Qp<|(Qm)<|(Qm)<|(Qm)<|(Qm)<|(Qm) ?_
            refine e_sliceStr fs q (Uu 9) rfl rfl rfl ⟨_, rfl⟩ ⟨_, rfl⟩ (by omega) (by omega) rfl ?_
            refine e_atSl (na) (Uu 47) (Uz 9) rfl rfl (by have := hs.1; omega) (by omega) rfl ?_
            refine e_st1 (i := 0) (Uz 9) rfl rfl rfl rfl (by have := hs.1; omega) (.inl rfl) ?_
            refine Qn<|Qs<|Qp<|(Qm)<|(Q2 1)<|(Qa)<|Qn<|Qs<|Qp<|(Qm)<|(Q2 1)<|(Qa)<|Qn<|Qs<|Qb ?_
            refine QzK [(0, _), (2, _), (3, _), (4, _), (5, _), (6, _), (9, _), (10, _), (11, _)] [(0, _)] (fun kk E m => ∃ (u : Nat), kk = l.length - u ∧ E = [(12, ii u)] ∧ m = [] ∧ (q < u ∧ u ≤ l.length) ∧ (fldGo [] (l.drop u) = (fieldsL l).drop (na + 1))) ⟨q + 1, rfl, rfl, rfl, by omega, hs.2.1⟩ ⟨rfl, rfl, rfl, rfl, rfl, rfl, rfl, rfl, rfl, rfl, trivial⟩ ⟨rfl, trivial⟩ ?_
            rintro kk E m ⟨u, rfl, rfl, rfl, hf3_0, hf3_1⟩
            simp only [catE, catL]
            refine Qs<|Qs<|Qp ?_
            refine e_join [(0, _), (2, _), (3, _), (4, _), (5, _), (6, _), (9, _), (10, _), (11, _), (12, _)] [(91, .bool (decide ((u : Int) < l.length) && decide ((asp (l.getD u 0) : Int) ≠ 0)))] [(0, some _)] ⟨rfl, rfl, rfl, rfl, rfl, rfl, rfl, rfl, rfl, rfl, trivial⟩ ⟨rfl, trivial⟩ ?_ ?_
            · skip
              refine (Qm)<|(Qm)<|(QU)<|(Ql)<|(Qm) ?_
              refine e_case (fun hb1 => ?_) (fun hb1 => ?_)
              · skip
                refine (Qy)<|(Qm)<|(Qy)<|(Qm)<|(Qy) ?_
                refine e_idxStr (Uu 9) rfl rfl (at_getD (by have := of_decide_eq_true hb1; omega)) (getD_b hl _) rfl ?_
                refine (Qy) ?_
                refine e_index0 (Uu 77) (Uz 5) rfl rfl (by have := getD_b hl u; omega) rfl ?_
                refine (Qy) ?_
                refine e_load1g (i := 0) (Uu 5) rfl rfl rfl (arr_get (by have := getD_b hl u; omega)) rfl ?_
                refine (Qy)<|(QN)<|(QT)<|Qn ?_
                exact ⟨⟨rfl, rfl, rfl, rfl, rfl, rfl, rfl, rfl, rfl, rfl, trivial⟩, ⟨bool_fin (by rw [hb1] <;> rfl), trivial⟩, ⟨rfl, trivial⟩⟩
              · skip
                refine (Qo)<|(Qo)<|(Qo)<|(Qo)<|(Qo)<|(Qo)<|(QF)<|Qn ?_
                exact ⟨⟨rfl, rfl, rfl, rfl, rfl, rfl, rfl, rfl, rfl, rfl, trivial⟩, ⟨bool_fin (by rw [hb1] <;> rfl), trivial⟩, ⟨rfl, trivial⟩⟩
            · simp only [catE]
              refine e_cond rfl ?_ ?_
              · intro hc5
                obtain ⟨hp3, hsp3⟩ := two_true hc5
                refine Qk<|Qb<|Qp<|(Qm)<|(Q2 1)<|(Qa)<|Qn ?_
                refine QzL ⟨u + 1, rfl, rfl, rfl, by omega, ((fld_skip (by omega) hsp3).symm.trans hf3_1)⟩ ⟨rfl, rfl, rfl, rfl, rfl, rfl, rfl, rfl, rfl, rfl, trivial⟩ ⟨rfl, trivial⟩ ?_
                omega
              · intro hc5
                have hx3 := two_false hc5
                refine Qe<|Qp<|(Qm)<|(Qa)<|Qn ?_
                refine QzL ⟨_, _, _, _, rfl, rfl, rfl, (by omega), (by first | exact hf2_1 | exact hf3_1), (by first | exact hf2_2 | exact hs.2.2), (by first | exact no_more hf2_3 hsp0 | exact fun j h1 h2 => absurd h2 (by omega)), (by first | exact fun h => absurd h (by omega) | exact fun _ h => hx3 h)⟩ ⟨rfl, rfl, rfl, rfl, rfl, rfl, rfl, rfl, rfl, rfl, trivial⟩ ⟨rfl, trivial⟩ ?_
                omega
        · intro hc3
          have hq2 := of_decide_eq_false hc3
          refine Qe<|Qs<|Qs<|Qp<|(Qm)<|(Qm)<|(QU)<|(Ql)<|Qn ?_
          refine e_cond rfl ?_ ?_
          · intro hc6
            have hfs := of_decide_eq_true hc6
            have he := fld_last hf2_1 hf2_2 (by omega) (fun j h1 h2 => hf2_3 j h1 (by omega))
            refine Qp<|(Qm)<|(Qm)<|(Qm)<|(Qm) ?_
            refine e_sliceStr fs l.length (Uu 9) rfl rfl rfl ⟨_, rfl⟩ rfl (by omega) (by omega) rfl ?_
            refine e_as (congrArg sv (show (l.drop fs).take (l.length - fs) = l.drop fs from List.take_of_length_le (by simp))) ?_
            refine e_atSl (na) (Uu 47) (Uz 9) rfl rfl (by have := he.1; omega) (by omega) rfl ?_
            refine e_st1 (i := 0) (Uz 9) rfl rfl rfl rfl (by have := he.1; omega) (.inl rfl) ?_
            refine Qn<|Qs<|Qp<|(Qm)<|(Qa)<|Qn<|Qr ?_
            exact ⟨_, _, _, 0, rfl, .tmp rfl, (by first | exact own_fix (own_texts (n := cntF 1 l) (N := cntF 1 l) (F := updv F na (sv (l.drop fs))) hfl (Nat.le_refl _) (by simp only [maxLen]; omega) (fun j hj => he.2 j (by omega))) hfl.symm rfl | exact own_fix (own_texts (n := cntF 1 l) (N := cntF 1 l) (F := F) hfl (Nat.le_refl _) (by simp only [maxLen]; omega) (fun j hj => hf2_2 j (by omega))) hfl.symm rfl), rfl⟩
          · intro hc6
            have hfs := of_decide_eq_false hc6
            have he := fld_none hf2_1 (by omega)
            refine Qk<|Qs<|Qp<|(Qm)<|(Qa)<|Qn<|Qr ?_
            exact ⟨_, _, _, 0, rfl, .tmp rfl, (by first | exact own_fix (own_texts (n := cntF 1 l) (N := cntF 1 l) (F := updv F na (sv (l.drop fs))) hfl (Nat.le_refl _) (by simp only [maxLen]; omega) (fun j hj => he.2 j (by omega))) hfl.symm rfl | exact own_fix (own_texts (n := cntF 1 l) (N := cntF 1 l) (F := F) hfl (Nat.le_refl _) (by simp only [maxLen]; omega) (fun j hj => hf2_2 j (by omega))) hfl.symm rfl), rfl⟩
end Go.Proofs.YtejejmhbhegneaaDoor
namespace Go.Proofs.YtejejmhbhegneaaDoor
open Go Go.RowKit
variable {G : Mem}
set_option maxHeartbeats 4000000 in
theorem tokens_fn (l : List Nat) (h7 : ∀ b ∈ l, b < 128) (hz : l.length ≤ 1000) : Fx Tryd.prog ((⟨1, arr .u8 256 asp, 77⟩ : Blk) :: G) [] 25 #[sv l] (fun v l1 nw => l1 = [] ∧ ∃ v', v = v' ∧ OwnS 3 1 v' (toks l).length ((toks l).map (fun x : Nat => ii x)) nw) := by
  have hl : ∀ b ∈ l, b < 256 := fun b hb => by have := h7 b hb; omega
  have hfl : (fieldsL l).length ≤ 1000 := by rw [fields_len]; have := cntF_le 1 (by decide) l; omega
  have hfb := fields_lt hl
  refine QfN Tryd.func25 ?_
  refine Qs<|Qp<|(Qa)<|Qn<|Qs<|QR ⟨[], 4, [], none⟩ ?_
  refine e_callN 0 (fun v => v) rfl rfl (Un 23) seenG (split_fn tokT 32 (by decide) (by decide) (by decide)) (by rw [nm8_eq]; decide) (by rw [List.length_map, Nat.mul_one]) rfl rfl fun v1_1 oz1_1 ho1_1 => ?_
  refine (Qa)<|Qn<|Qs<|Qp<|(Qa)<|Qn<|Qs<|Qs<|QR ⟨[], 4, [], none⟩<|(Qm) ?_
  refine e_callN 1 (fun v => v) rfl rfl (Un 37) seenG (fields_fn (G := G) l h7 (by omega)) (by simp only [maxLen]; omega) (by rw [List.length_map, Nat.mul_one]) rfl rfl fun v1_2 oz1_2 ho1_2 => ?_
  refine (QC ho1_2.shows)<|(Qm)<|Qn<|Qb ?_
  refine QzK [(2, _), (3, _), (11, _), (12, _)] [(0, oz1_1), (1, oz1_2)] (fun kk E m => ∃ (i : Nat) (w : Value) (oz : Option Blk), kk = (fieldsL l).length - i ∧ E = [(4, w), (13, ii i)] ∧ m = [(50, oz)] ∧ (i ≤ (fieldsL l).length) ∧ (OwnS 3 1 w (uptoT (fieldsL l) i 0).length ((uptoT (fieldsL l) i 0).map (fun x : Nat => ii x)) oz.toList)) ⟨0, nilS, none, rfl, rfl, rfl, by omega, (own_fix (own_nil _ _) (by rw [uptoT_zero]; rfl) (by rw [uptoT_zero]; rfl))⟩ ⟨rfl, rfl, rfl, rfl, rfl, rfl, trivial⟩ ⟨rfl, rfl, rfl, trivial⟩ ?_
  rintro kk E m ⟨i, w, oz, rfl, rfl, rfl, hf0_0, hf0_1⟩
  simp only [catE, catL]
  refine Qs<|Qp<|(Ql)<|Qn<|Qs ?_
  refine e_cond rfl ?_ ?_
  · intro hc0
    have hc0 : i < (fieldsL l).length := by have := of_decide_eq_true hc0; omega
    refine Qk<|Qs<|Qb<|Qs<|Qp ?_
    refine e_atV ho1_2.shows (Uu 47) (Uz 9) rfl rfl (by omega) rfl ?_
    refine (QS) ?_
    refine e_loadV ho1_2.shows (seenM 1 rfl ⟨[], trivial⟩) (Uu 9) rfl rfl (texts_at (by omega)) rfl ?_
    refine (Qa)<|Qn<|Qs<|Qp<|(Qm)<|(QC ho1_1.shows) ?_
    refine e_as (congrArg ii (show (splitB tokT 32).length = 8 by rw [nm8_eq]; rfl)) ?_
    refine (Qm)<|Qn<|Qb ?_
    refine QzK [(2, _), (3, _), (6, _), (11, _), (12, _), (13, _), (17, _), (18, _)] [(0, oz1_1), (1, oz1_2)] (fun kk E m => ∃ (j : Nat) (w2 : Value) (oy : Option Blk), kk = 8 - j ∧ E = [(4, w2), (19, ii j)] ∧ m = [(50, oy)] ∧ (j ≤ 8) ∧ (OwnS 3 1 w2 (uptoT (fieldsL l) i j).length ((uptoT (fieldsL l) i j).map (fun x : Nat => ii x)) oy.toList)) ⟨0, w, oz, rfl, rfl, rfl, by omega, hf0_1⟩ ⟨rfl, rfl, rfl, rfl, rfl, rfl, rfl, rfl, rfl, rfl, trivial⟩ ⟨rfl, rfl, rfl, trivial⟩ ?_
    rintro kk E m ⟨j, w2, oy, rfl, rfl, rfl, hf1_0, hf1_1⟩
    simp only [catE, catL]
    have hul := uptoT_len (fieldsL l) i j
    refine Qs<|Qp<|(Ql)<|Qn<|Qs ?_
    refine e_cond rfl ?_ ?_
    · intro hc1
      have hc1 : j < 8 := by have := of_decide_eq_true hc1; omega
      refine Qk<|Qs<|Qb<|Qs<|Qp<|(Qm) ?_
      refine e_atV ho1_1.shows (Uu 47) (Uz 9) rfl rfl (by rw [nm8_eq]; exact hc1) rfl ?_
      refine (QS) ?_
      refine e_loadV ho1_1.shows (seenM 0 rfl ⟨[], trivial⟩) (Uu 9) rfl rfl (texts_at (by rw [nm8_eq]; exact hc1)) rfl ?_
      refine e_as (congrArg (fun z => sv (List.getD z j [])) nm8_eq) ?_
      refine (Qa)<|(Qa)<|Qn<|Qs<|Qp<|(Qm)<|(Qm) ?_
      refine e_eqStr rfl rfl rfl (nm8_lt j hc1) (hfb _ (getD_mem (by omega))) ?_
      refine Qn ?_
      refine e_cond rfl ?_ ?_
      · intro hc2
        have hc2 := of_decide_eq_true hc2
        refine Qp<|(Qm)<|(Qm) ?_
        refine e_buildSl 2 #[ii j] (Uu 22 rfl) (Uz 3 rfl) (Ub 3 rfl) (by decide) (by decide) rfl (by kernel_rfl) rfl fun r3 => ?_
        refine e_append 50 hf1_1 (shows_new _ _ (by rfl)) rfl (seen1 2 rfl ⟨[], trivial⟩) (Uu 22) (Uz 3) (Uy 3) (Ub 3) (by rfl) rfl rfl (one_ii j) (by simp only [maxLen]; omega) (by omega) rfl fun v4_3 oz4_3 ho4_3 => ?_
        refine (Qa)<|Qn<|Qp<|(Q2 1)<|(Qm)<|Qn ?_
        refine QzL ⟨j + 1, _, _, rfl, rfl, rfl, by omega, (by first | exact own_fix ho4_3 (by rw [uptoT_yes hc2, List.length_append]; rfl) (by rw [uptoT_yes hc2, List.map_append]; rfl) | exact own_fix hf1_1 (by rw [uptoT_no hc2]) (by rw [uptoT_no hc2]))⟩ ⟨rfl, rfl, rfl, rfl, rfl, rfl, rfl, rfl, rfl, rfl, trivial⟩ ⟨rfl, rfl, rfl, trivial⟩ ?_
        omega
      · intro hc2
        have hc2 := of_decide_eq_false hc2
        refine Qk<|Qp<|(Q2 1)<|(Qm)<|Qn ?_
        refine QzL ⟨j + 1, _, _, rfl, rfl, rfl, by omega, (by first | exact own_fix ho4_3 (by rw [uptoT_yes hc2, List.length_append]; rfl) (by rw [uptoT_yes hc2, List.map_append]; rfl) | exact own_fix hf1_1 (by rw [uptoT_no hc2]) (by rw [uptoT_no hc2]))⟩ ⟨rfl, rfl, rfl, rfl, rfl, rfl, rfl, rfl, rfl, rfl, trivial⟩ ⟨rfl, rfl, rfl, trivial⟩ ?_
        omega
    · intro hc1
      have hc1 := of_decide_eq_false hc1
      have hz1 : j = 8 := by omega
      refine Qe<|Qp<|(Q2 1)<|(Qm)<|Qn ?_
      refine QzL ⟨i + 1, _, _, rfl, rfl, rfl, by omega, (own_fix hf1_1 (by rw [hz1, uptoT_row (by omega)]) (by rw [hz1, uptoT_row (by omega)]))⟩ ⟨rfl, rfl, rfl, rfl, rfl, rfl, trivial⟩ ⟨rfl, rfl, rfl, trivial⟩ ?_
      omega
  · intro hc0
    have hc0 := of_decide_eq_false hc0
    have hz0 : i = (fieldsL l).length := by omega
    refine Qe<|Qs<|Qp<|(Qm)<|(Qa)<|Qn<|Qr ?_
    exact ⟨_, _, _, 50, rfl, .tmp rfl, (own_fix hf0_1 (by rw [hz0, uptoT_all]) (by rw [hz0, uptoT_all])), rfl⟩
set_option maxHeartbeats 400000 in
theorem ptext_fn (l : List Nat) (hl : ∀ b ∈ l, b < 256) : Fn Tryd.prog G 22 #[sv l] (sv (ptext l)) := by
  refine Qf1 Tryd.func22 ?_
  refine Qs<|Qp ?_
  refine e_assign (v := sv []) rfl rfl ?_
  refine Qn<|Qs<|Qs<|Qp<|(Qm)<|Qn<|Qb<|Qs<|Qp ?_
  refine e_eqStr (k := [78, 78]) rfl rfl rfl hl (by decide) ?_
  refine (Qa)<|Qn ?_
  refine e_cond rfl ?_ ?_
  · intro hc0
    have hc0 := of_decide_eq_true hc0
    refine Qs<|Qp ?_
    refine e_assign (v := sv [59, 59, 32, 101, 59, 32, 101, 32, 101, 101, 59]) rfl rfl ?_
    refine Qn<|Qr ?_
    first | rw [ptext, if_neg hc0, if_neg hc1, if_neg hc2, if_neg hc3, if_neg hc4, if_neg hc5, if_neg hc6] | rw [ptext, if_neg hc0, if_neg hc1, if_neg hc2, if_neg hc3, if_neg hc4, if_neg hc5, if_pos hc6] | rw [ptext, if_neg hc0, if_neg hc1, if_neg hc2, if_neg hc3, if_neg hc4, if_pos hc5] | rw [ptext, if_neg hc0, if_neg hc1, if_neg hc2, if_neg hc3, if_pos hc4] | rw [ptext, if_neg hc0, if_neg hc1, if_neg hc2, if_pos hc3] | rw [ptext, if_neg hc0, if_neg hc1, if_pos hc2] | rw [ptext, if_neg hc0, if_pos hc1] | rw [ptext, if_pos hc0]
    exact ⟨_, rfl, .tmp rfl⟩
  · intro hc0
    have hc0 := of_decide_eq_false hc0
    refine Qs<|Qp ?_
    refine e_eqStr (k := [78, 75]) rfl rfl rfl hl (by decide) ?_
    refine (Qa)<|Qn ?_
    refine e_cond rfl ?_ ?_
    · intro hc1
      have hc1 := of_decide_eq_true hc1
      refine Qs<|Qp ?_
      refine e_assign (v := sv [59, 32, 115, 59, 32, 101, 32, 101, 115, 59, 32, 101, 32, 101, 101, 59]) rfl rfl ?_
      refine Qn<|Qr ?_
      first | rw [ptext, if_neg hc0, if_neg hc1, if_neg hc2, if_neg hc3, if_neg hc4, if_neg hc5, if_neg hc6] | rw [ptext, if_neg hc0, if_neg hc1, if_neg hc2, if_neg hc3, if_neg hc4, if_neg hc5, if_pos hc6] | rw [ptext, if_neg hc0, if_neg hc1, if_neg hc2, if_neg hc3, if_neg hc4, if_pos hc5] | rw [ptext, if_neg hc0, if_neg hc1, if_neg hc2, if_neg hc3, if_pos hc4] | rw [ptext, if_neg hc0, if_neg hc1, if_neg hc2, if_pos hc3] | rw [ptext, if_neg hc0, if_neg hc1, if_pos hc2] | rw [ptext, if_neg hc0, if_pos hc1] | rw [ptext, if_pos hc0]
      exact ⟨_, rfl, .tmp rfl⟩
    · intro hc1
      have hc1 := of_decide_eq_false hc1
      refine Qs<|Qp ?_
      refine e_eqStr (k := [88, 88]) rfl rfl rfl hl (by decide) ?_
      refine (Qa)<|Qn ?_
      refine e_cond rfl ?_ ?_
      · intro hc2
        have hc2 := of_decide_eq_true hc2
        refine Qs<|Qp ?_
        refine e_assign (v := sv [59, 59, 32, 101, 59, 32, 101, 32, 101, 101, 32, 115, 32, 101, 115, 59, 32, 115, 32, 115, 101, 59]) rfl rfl ?_
        refine Qn<|Qr ?_
        first | rw [ptext, if_neg hc0, if_neg hc1, if_neg hc2, if_neg hc3, if_neg hc4, if_neg hc5, if_neg hc6] | rw [ptext, if_neg hc0, if_neg hc1, if_neg hc2, if_neg hc3, if_neg hc4, if_neg hc5, if_pos hc6] | rw [ptext, if_neg hc0, if_neg hc1, if_neg hc2, if_neg hc3, if_neg hc4, if_pos hc5] | rw [ptext, if_neg hc0, if_neg hc1, if_neg hc2, if_neg hc3, if_pos hc4] | rw [ptext, if_neg hc0, if_neg hc1, if_neg hc2, if_pos hc3] | rw [ptext, if_neg hc0, if_neg hc1, if_pos hc2] | rw [ptext, if_neg hc0, if_pos hc1] | rw [ptext, if_pos hc0]
        exact ⟨_, rfl, .tmp rfl⟩
      · intro hc2
        have hc2 := of_decide_eq_false hc2
        refine Qs<|Qp ?_
        refine e_eqStr (k := [73, 75]) rfl rfl rfl hl (by decide) ?_
        refine (Qa)<|Qn ?_
        refine e_cond rfl ?_ ?_
        · intro hc3
          have hc3 := of_decide_eq_true hc3
          refine Qs<|Qp ?_
          refine e_assign (v := sv [59, 32, 115, 59, 32, 101, 32, 101, 115, 32, 115, 32, 115, 115, 59, 32, 101, 32, 101, 101, 32, 115, 101, 59]) rfl rfl ?_
          refine Qn<|Qr ?_
          first | rw [ptext, if_neg hc0, if_neg hc1, if_neg hc2, if_neg hc3, if_neg hc4, if_neg hc5, if_neg hc6] | rw [ptext, if_neg hc0, if_neg hc1, if_neg hc2, if_neg hc3, if_neg hc4, if_neg hc5, if_pos hc6] | rw [ptext, if_neg hc0, if_neg hc1, if_neg hc2, if_neg hc3, if_neg hc4, if_pos hc5] | rw [ptext, if_neg hc0, if_neg hc1, if_neg hc2, if_neg hc3, if_pos hc4] | rw [ptext, if_neg hc0, if_neg hc1, if_neg hc2, if_pos hc3] | rw [ptext, if_neg hc0, if_neg hc1, if_pos hc2] | rw [ptext, if_neg hc0, if_pos hc1] | rw [ptext, if_pos hc0]
          exact ⟨_, rfl, .tmp rfl⟩
        · intro hc3
          have hc3 := of_decide_eq_false hc3
          refine Qs<|Qp ?_
          refine e_eqStr (k := [88, 75]) rfl rfl rfl hl (by decide) ?_
          refine (Qa)<|Qn ?_
          refine e_cond rfl ?_ ?_
          · intro hc4
            have hc4 := of_decide_eq_true hc4
            refine Qs<|Qp ?_
            refine e_assign (v := sv [59, 32, 115, 59, 32, 101, 32, 101, 115, 59, 32, 101, 32, 101, 101, 59, 32, 115, 32, 115, 101, 59]) rfl rfl ?_
            refine Qn<|Qr ?_
            first | rw [ptext, if_neg hc0, if_neg hc1, if_neg hc2, if_neg hc3, if_neg hc4, if_neg hc5, if_neg hc6] | rw [ptext, if_neg hc0, if_neg hc1, if_neg hc2, if_neg hc3, if_neg hc4, if_neg hc5, if_pos hc6] | rw [ptext, if_neg hc0, if_neg hc1, if_neg hc2, if_neg hc3, if_neg hc4, if_pos hc5] | rw [ptext, if_neg hc0, if_neg hc1, if_neg hc2, if_neg hc3, if_pos hc4] | rw [ptext, if_neg hc0, if_neg hc1, if_neg hc2, if_pos hc3] | rw [ptext, if_neg hc0, if_neg hc1, if_pos hc2] | rw [ptext, if_neg hc0, if_pos hc1] | rw [ptext, if_pos hc0]
            exact ⟨_, rfl, .tmp rfl⟩
          · intro hc4
            have hc4 := of_decide_eq_false hc4
            refine Qs<|Qp ?_
            refine e_eqStr (k := [75, 75]) rfl rfl rfl hl (by decide) ?_
            refine (Qa)<|Qn ?_
            refine e_cond rfl ?_ ?_
            · intro hc5
              have hc5 := of_decide_eq_true hc5
              refine Qs<|Qp ?_
              refine e_assign (v := sv [115, 59, 32, 115, 59, 32, 101, 32, 101, 115, 32, 115, 115, 59, 32, 101, 32, 101, 101, 32, 115, 101, 59]) rfl rfl ?_
              refine Qn<|Qr ?_
              first | rw [ptext, if_neg hc0, if_neg hc1, if_neg hc2, if_neg hc3, if_neg hc4, if_neg hc5, if_neg hc6] | rw [ptext, if_neg hc0, if_neg hc1, if_neg hc2, if_neg hc3, if_neg hc4, if_neg hc5, if_pos hc6] | rw [ptext, if_neg hc0, if_neg hc1, if_neg hc2, if_neg hc3, if_neg hc4, if_pos hc5] | rw [ptext, if_neg hc0, if_neg hc1, if_neg hc2, if_neg hc3, if_pos hc4] | rw [ptext, if_neg hc0, if_neg hc1, if_neg hc2, if_pos hc3] | rw [ptext, if_neg hc0, if_neg hc1, if_pos hc2] | rw [ptext, if_neg hc0, if_pos hc1] | rw [ptext, if_pos hc0]
              exact ⟨_, rfl, .tmp rfl⟩
            · intro hc5
              have hc5 := of_decide_eq_false hc5
              refine Qs<|Qp ?_
              refine e_eqStr (k := [88, 88, 102, 97, 108, 108, 98, 97, 99, 107]) rfl rfl rfl hl (by decide) ?_
              refine (Qa)<|Qn ?_
              refine e_cond rfl ?_ ?_
              · intro hc6
                have hc6 := of_decide_eq_true hc6
                refine Qs<|Qp ?_
                refine e_assign (v := sv [101, 59, 59, 32, 101, 32, 101, 101, 32, 115, 32, 101, 115, 59, 32, 115, 32, 115, 101, 59]) rfl rfl ?_
                refine Qn<|Qr ?_
                first | rw [ptext, if_neg hc0, if_neg hc1, if_neg hc2, if_neg hc3, if_neg hc4, if_neg hc5, if_neg hc6] | rw [ptext, if_neg hc0, if_neg hc1, if_neg hc2, if_neg hc3, if_neg hc4, if_neg hc5, if_pos hc6] | rw [ptext, if_neg hc0, if_neg hc1, if_neg hc2, if_neg hc3, if_neg hc4, if_pos hc5] | rw [ptext, if_neg hc0, if_neg hc1, if_neg hc2, if_neg hc3, if_pos hc4] | rw [ptext, if_neg hc0, if_neg hc1, if_neg hc2, if_pos hc3] | rw [ptext, if_neg hc0, if_neg hc1, if_pos hc2] | rw [ptext, if_neg hc0, if_pos hc1] | rw [ptext, if_pos hc0]
                exact ⟨_, rfl, .tmp rfl⟩
              · intro hc6
                have hc6 := of_decide_eq_false hc6
                refine Qk<|Qs<|Qp ?_
                refine e_assign (v := sv []) rfl rfl ?_
                refine Qn<|Qr ?_
                first | rw [ptext, if_neg hc0, if_neg hc1, if_neg hc2, if_neg hc3, if_neg hc4, if_neg hc5, if_neg hc6] | rw [ptext, if_neg hc0, if_neg hc1, if_neg hc2, if_neg hc3, if_neg hc4, if_neg hc5, if_pos hc6] | rw [ptext, if_neg hc0, if_neg hc1, if_neg hc2, if_neg hc3, if_neg hc4, if_pos hc5] | rw [ptext, if_neg hc0, if_neg hc1, if_neg hc2, if_neg hc3, if_pos hc4] | rw [ptext, if_neg hc0, if_neg hc1, if_neg hc2, if_pos hc3] | rw [ptext, if_neg hc0, if_neg hc1, if_pos hc2] | rw [ptext, if_neg hc0, if_pos hc1] | rw [ptext, if_pos hc0]
                exact ⟨_, rfl, .tmp rfl⟩
end Go.Proofs.YtejejmhbhegneaaDoor
namespace Go.Proofs.YtejejmhbhegneaaDoor
open Go Go.RowKit
variable {G : Mem}
set_option maxHeartbeats 400000 in
theorem hassuf_fn (l : List Nat) (c : Nat) (hl : ∀ b ∈ l, b < 256) (hc : c < 256) (hz : l.length ≤ 1000000) : Fn Tryd.prog G 49 #[sv l, sv [c]] (.bool (hasS l c)) := by
  refine Qf1 Tryd.func49 ?_
  refine Qs<|Qp<|(Qa)<|Qn<|Qs<|Qp ?_
  refine e_join [(0, _), (1, _)] [(4, .bool (hasS l c))] [] ⟨rfl, rfl, trivial⟩ trivial ?_ ?_
  · skip
    refine (Qm)<|(QU)<|(Qm)<|(QU) ?_
    refine e_as (show _ = ii 1 from rfl) ?_
    refine (QE)<|(Qm) ?_
    refine e_case (fun hb0 => ?_) (fun hb0 => ?_)
    · skip
      refine (Qy)<|(Qm)<|(Qy)<|(Qm)<|(Qy)<|(QU)<|(Qy)<|(Qm)<|(Qy)<|(QU) ?_
      refine e_as (show _ = ii 1 from rfl) ?_
      refine (Qy) ?_
      refine e_sub_in rfl rfl rfl (by omega) (by have := of_decide_eq_true hb0; omega) ?_
      refine (Qy) ?_
      refine e_sliceStr (l.length - 1) l.length (Uu 9) rfl rfl rfl ⟨_, rfl⟩ rfl (by omega) (by omega) rfl ?_
      refine e_as (congrArg sv (show (l.drop (l.length - 1)).take (l.length - (l.length - 1)) = l.drop (l.length - 1) from List.take_of_length_le (by simp))) ?_
      refine (Qy)<|(Qm)<|(Qy) ?_
      refine e_eqStr rfl rfl rfl (fun b hb => hl b (List.mem_of_mem_drop hb)) (by simpa using hc) ?_
      refine (QT)<|(Qa)<|Qn ?_
      exact ⟨⟨rfl, rfl, trivial⟩, ⟨bool_fin (by first | exact hasS_no (of_decide_eq_false hb0) | exact hasS_yes (of_decide_eq_true hb0)), trivial⟩, trivial⟩
    · skip
      refine (Qo)<|(Qo)<|(Qo)<|(Qo)<|(Qo)<|(Qo)<|(Qo)<|(Qo)<|(Qo)<|(QF)<|(Qa)<|Qn ?_
      exact ⟨⟨rfl, rfl, trivial⟩, ⟨bool_fin (by first | exact hasS_no (of_decide_eq_false hb0) | exact hasS_yes (of_decide_eq_true hb0)), trivial⟩, trivial⟩
  · simp only [catE]
    refine Qr ?_
    exact ⟨_, rfl, .tmp rfl⟩
set_option maxHeartbeats 400000 in
theorem ltrim_fn (l : List Nat) (c : Nat) (hl : ∀ b ∈ l, b < 256) (hc : c < 256) (hz : l.length ≤ 1000000) : Fn Tryd.prog G 36 #[sv l, sv [c]] (sv (trimS l c)) := by
  refine Qf1 Tryd.func36 ?_
  refine Qs<|Qp ?_
  refine e_assign (v := sv []) rfl rfl ?_
  refine Qn<|Qs<|Qs<|Qp<|(Qm)<|(Qm) ?_
  refine e_call rfl (Un 49) (hassuf_fn l c hl hc hz) rfl rfl ?_
  refine Qn ?_
  refine e_cond rfl ?_ ?_
  · intro hc0
    obtain ⟨ht1, ht2⟩ := trimS_yes hc0
    refine Qs<|Qp<|(Qm)<|(Qm)<|(QU)<|(Qm)<|(QU) ?_
    refine e_as (show _ = ii 1 from rfl) ?_
    refine e_sub_in rfl rfl rfl (by omega) (by omega) ?_
    refine e_sliceStr 0 (l.length - 1) (Uu 9) rfl rfl rfl rfl ⟨_, rfl⟩ (by omega) (by omega) rfl ?_
    refine e_as (congrArg sv (show (l.drop 0).take (l.length - 1 - 0) = l.take (l.length - 1) from rfl)) ?_
    refine (Qa)<|Qn<|Qr ?_
    rw [ht2]
    exact ⟨_, rfl, .tmp rfl⟩
  · intro hc0
    have ht2 := trimS_no hc0
    refine Qk<|Qs<|Qp<|(Qm)<|(Qa)<|Qn<|Qr ?_
    rw [ht2]
    exact ⟨_, rfl, .tmp rfl⟩
set_option maxHeartbeats 400000 in
theorem trim_fn (l : List Nat) (c : Nat) (hl : ∀ b ∈ l, b < 256) (hc : c < 256) (hz : l.length ≤ 1000000) : Fn Tryd.prog G 24 #[sv l, sv [c]] (sv (trimS l c)) := by
  refine Qf1 Tryd.func24 ?_
  refine Qs<|Qp ?_
  refine e_assign (v := sv []) rfl rfl ?_
  refine Qn<|Qs<|Qp<|(Qm)<|(Qm) ?_
  refine e_call rfl (Un 36) (ltrim_fn l c hl hc hz) rfl rfl ?_
  refine (Qa)<|Qn<|Qr ?_
  exact ⟨_, rfl, .tmp rfl⟩
end Go.Proofs.YtejejmhbhegneaaDoor
namespace Go.Proofs.YtejejmhbhegneaaDoor
open Go Go.RowKit
variable {G : Mem}
set_option maxHeartbeats 4000000 in
theorem with_err (l : List Nat) (v : Value) (ps : List Int) (e : Nat) (hl0 : ∀ b ∈ l, b < 256) (hv : Shows ((⟨1, arr .u8 256 asp, 77⟩ : Blk) :: G) 1 v ps.length (ps.map iv)) (hp9 : ps.length ≤ 9223372036854775807) (he : (pwith l ps).1 = e) (h0 : e ≠ 0) : Fn Tryd.prog ((⟨1, arr .u8 256 asp, 77⟩ : Blk) :: G) 9 #[sv l, v] (.tuple #[.agg (cells 6 [pV (.string ByteArray.empty), pV (.bool false), pV nilS, pV nilS, pV nilS, pV nilS]), ii e]) := by
  have hl : ∀ b ∈ l, b < 256 := hl0
  refine Qf2 Tryd.func9 ?_
  refine Qs<|Qp<|(QH 0) fun r1=>(Qa)<|Qn<|Qs<|Qp<|(Qm) ?_
  refine e_call rfl (Un 22) (ptext_fn l hl) rfl rfl ?_
  refine (Qa)<|Qn<|Qs<|Qs<|Qp<|(Qm) ?_
  refine e_eqStr (k := []) rfl rfl rfl (fun b hb => by have := ptext_lt l b hb; omega) (by simp) ?_
  refine Qn ?_
  refine e_cond rfl ?_ ?_
  · intro hc0
    have hc0 := of_decide_eq_true hc0
    have he5 : e = 5 := by rw [← he, pwith, if_pos hc0]
    subst he5
    refine Qs<|Qp ?_
    refine e_buildS (cells 6 [pV (.string ByteArray.empty), pV (.bool false), pV nilS, pV nilS, pV nilS, pV nilS]) (Ub 26 rfl) (Uu 26 rfl) pls26 rfl (by kernel_rfl) rfl ?_
    refine e_storeA (i := 0) (Uz 26) rfl rfl (arrv_size _ _) (cells_one ⟨fun _ => rfl, fun _ => rfl, fun _ => rfl, fun _ => rfl, fun _ => rfl, fun _ => rfl, trivial⟩) rfl cells_sz (.inl rfl) ?_
    refine (Qa)<|Qn<|Qr ?_
    exact ⟨_, _, rfl, .cell (i := 0) rfl rfl (Uu 26) rfl (Uz 26) (arrv_size _ _), .tmp rfl⟩
  · intro hc0
    have hc0 := of_decide_eq_false hc0
    obtain ⟨hb1, hb2, hb3, hb4, hb5⟩ := pbase_ok hc0
    refine Qk<|Qs<|Qs<|Qp<|(Qm)<|(QC hv)<|(QG)<|Qn ?_
    refine e_cond rfl ?_ ?_
    · intro hc1
      have hc1 := of_decide_eq_true hc1
      have he1 : e = 1 := by rw [← he, pwith, if_neg hc0, if_pos (by omega)]
      subst he1
      refine Qs<|Qp ?_
      refine e_buildS (cells 6 [pV (.string ByteArray.empty), pV (.bool false), pV nilS, pV nilS, pV nilS, pV nilS]) (Ub 26 rfl) (Uu 26 rfl) pls26 rfl (by kernel_rfl) rfl ?_
      refine e_storeA (i := 0) (Uz 26) rfl rfl (arrv_size _ _) (cells_one ⟨fun _ => rfl, fun _ => rfl, fun _ => rfl, fun _ => rfl, fun _ => rfl, fun _ => rfl, trivial⟩) rfl cells_sz (.inl rfl) ?_
      refine (Qa)<|Qn<|Qr ?_
      exact ⟨_, _, rfl, .cell (i := 0) rfl rfl (Uu 26) rfl (Uz 26) (arrv_size _ _), .tmp rfl⟩
    · intro hc1
      have hc1 := of_decide_eq_false hc1
      have hpw : pwith l ps = pfold (pbase l) (-1) ps := by rw [pwith, if_neg hc0, if_neg (by omega)]
      refine Qk<|Qs<|QR ⟨[], 4, [], none⟩<|(Qm) ?_
      refine e_call rfl (Un 24) (trim_fn (ptext l) 59 (fun b hb => by have := hb4 b hb; omega) (by decide) (by omega)) rfl rfl ?_
      refine e_callN 1 (fun v => v) rfl rfl (Un 23) seenG (split_fn (trimS (ptext l) 59) 59 (fun b hb => by have := trimS_mem hb; have := hb4 b this; omega) (by decide) (by have := trimS_len (ptext l) 59; omega)) (by have : (splitB (trimS (ptext l) 59) 59).length = (pbase l).length := rfl; simp only [maxLen]; omega) (by rw [List.length_map, Nat.mul_one]) rfl rfl fun v3_1 oz3_1 ho3_1 => ?_
      refine (Qa)<|Qn<|Qs<|Qp<|(Qm)<|(QC ho3_1.shows) ?_
      refine e_as (show _ = ii (pbase l).length from rfl) ?_
      refine e_sub_in (q := 2) rfl rfl rfl (by omega) (by omega) ?_
      refine (Qa)<|Qn<|Qs<|Qp<|(Qa)<|Qn<|Qs<|Qs<|Qp<|(Qm)<|(QC hv)<|(Qm)<|Qn<|Qb ?_
      refine QzK [(0, _), (1, _), (4, _), (7, _), (8, _), (30, _), (31, _)] [(0, _)] (fun kk E m => ∃ (i : Nat) (L : List (List Nat)) (last : Int) (oz : Option Blk), kk = ps.length - i ∧ E = [(9, Value.int .i64 last), (32, ii i)] ∧ m = [(1, oz)] ∧ (i ≤ ps.length) ∧ (OwnS 9 1 v3_1 L.length (L.map sv) oz.toList) ∧ (L.length = (pbase l).length) ∧ (pfold (pbase l) (-1) ps = pfold L last (ps.drop i)) ∧ (shortT L (30 + 4 * i))) ⟨0, (pbase l), (-1), oz3_1, rfl, rfl, rfl, by omega, ho3_1, rfl, rfl, hb3⟩ ⟨rfl, rfl, rfl, rfl, rfl, rfl, rfl, rfl, rfl, trivial⟩ ⟨rfl, rfl, trivial⟩ ?_
      rintro kk E m ⟨i, L, last, oz, rfl, rfl, rfl, hf0_0, hf0_1, hf0_2, hf0_3, hf0_4⟩
      simp only [catE, catL]
      refine Qs<|Qp<|(Ql)<|Qn<|Qs ?_
      refine e_cond rfl ?_ ?_
      · intro hc2
        have hc2 : i < ps.length := by have := of_decide_eq_true hc2; omega
        refine Qk<|Qs<|Qb<|Qs<|Qp ?_
        refine e_atV hv (Uu 22) (Uz 3) rfl rfl (by omega) rfl ?_
        refine (QS) ?_
        refine e_loadV hv seenG (Uu 3) rfl rfl (iv_at (by omega)) rfl ?_
        refine (Qa)<|Qn<|Qs<|Qs<|Qp ?_
        refine e_join [(0, _), (1, _), (4, _), (7, _), (8, _), (9, _), (11, _), (30, _), (31, _), (32, _), (33, _), (34, _), (35, _)] [(42, .bool (decide ((ps.getD i 0) < 0) || decide ((((pbase l).length - 2 : Nat) : Int) < (ps.getD i 0))))] [(0, some _), (1, oz)] ⟨rfl, rfl, rfl, rfl, rfl, rfl, rfl, rfl, rfl, rfl, rfl, rfl, rfl, trivial⟩ ⟨rfl, rfl, trivial⟩ ?_ ?_
        · skip
          refine (Qm)<|(Ql)<|(Qm) ?_
          refine e_case (fun hb0 => ?_) (fun hb0 => ?_)
          · skip
            refine (Qo)<|(Qo)<|(Qo)<|(QT)<|Qn ?_
            exact ⟨⟨rfl, rfl, rfl, rfl, rfl, rfl, rfl, rfl, rfl, rfl, rfl, rfl, rfl, trivial⟩, ⟨bool_fin (by rw [hb0] <;> rfl), trivial⟩, ⟨rfl, rfl, trivial⟩⟩
          · skip
            refine (Qy)<|(Qm)<|(Qy)<|(Qm)<|(Qy)<|(QG)<|(QF)<|Qn ?_
            exact ⟨⟨rfl, rfl, rfl, rfl, rfl, rfl, rfl, rfl, rfl, rfl, rfl, rfl, rfl, trivial⟩, ⟨bool_fin (by rw [hb0] <;> rfl), trivial⟩, ⟨rfl, rfl, trivial⟩⟩
        · simp only [catE]
          refine e_cond rfl ?_ ?_
          · intro hc3
            have hxr := or_true2 hc3
            have he6 : e = 6 := by rw [← he, hpw, hf0_3, pf_range (by omega) (by rw [hf0_2]; exact hxr)]
            subst he6
            refine Qs<|Qp ?_
            refine e_buildS (cells 6 [pV (.string ByteArray.empty), pV (.bool false), pV nilS, pV nilS, pV nilS, pV nilS]) (Ub 26 rfl) (Uu 26 rfl) pls26 rfl (by kernel_rfl) rfl ?_
            refine e_storeA (i := 0) (Uz 26) rfl rfl (arrv_size _ _) (cells_one ⟨fun _ => rfl, fun _ => rfl, fun _ => rfl, fun _ => rfl, fun _ => rfl, fun _ => rfl, trivial⟩) rfl cells_sz (.inl rfl) ?_
            refine (Qa)<|Qn<|Qr ?_
            exact ⟨_, _, rfl, .cell (i := 0) rfl rfl (Uu 26) rfl (Uz 26) (arrv_size _ _), .tmp rfl⟩
          · intro hc3
            have hxr : ¬ (ps.getD i 0 < 0 ∨ ((L.length - 2 : Nat) : Int) < ps.getD i 0) := by rw [hf0_2]; exact or_false2 hc3
            refine Qk<|Qs<|Qs<|Qp<|(Qm)<|(Qm)<|(QL)<|Qn ?_
            refine e_cond rfl ?_ ?_
            · intro hc4
              have hxl := of_decide_eq_true hc4
              have he3 : e = 3 := by rw [← he, hpw, hf0_3, pf_form (by omega) hxr hxl]
              subst he3
              refine Qs<|Qp ?_
              refine e_buildS (cells 6 [pV (.string ByteArray.empty), pV (.bool false), pV nilS, pV nilS, pV nilS, pV nilS]) (Ub 26 rfl) (Uu 26 rfl) pls26 rfl (by kernel_rfl) rfl ?_
              refine e_storeA (i := 0) (Uz 26) rfl rfl (arrv_size _ _) (cells_one ⟨fun _ => rfl, fun _ => rfl, fun _ => rfl, fun _ => rfl, fun _ => rfl, fun _ => rfl, trivial⟩) rfl cells_sz (.inl rfl) ?_
              refine (Qa)<|Qn<|Qr ?_
              exact ⟨_, _, rfl, .cell (i := 0) rfl rfl (Uu 26) rfl (Uz 26) (arrv_size _ _), .tmp rfl⟩
            · intro hc4
              have hxl := of_decide_eq_false hc4
              refine Qk<|Qs<|Qp<|(Qm)<|(Qa)<|Qn<|Qs<|Qp<|(Qm)<|(Qc)<|Qn ?_
              refine e_cond rfl ?_ ?_
              · intro hc5
                have hx0 := of_decide_eq_true hc5
                refine Qp<|(Qm)<|(Qm) ?_
                refine e_atV (j := 2) hf0_1.shows (Uu 47) (Uz 9) rfl rfl (by omega) rfl ?_
                refine (QS) ?_
                refine e_loadV hf0_1.shows (seenM 1 rfl ⟨[], trivial⟩) (Uu 9) rfl rfl (texts_at (by omega)) rfl ?_
                refine e_catS (l := [112, 115, 107, 32]) rfl rfl rfl (by have := (short_at (i := 2) hf0_4).2; simp only [List.length_cons, List.length_nil]; omega) ?_
                refine e_atV (j := 2) hf0_1.shows (Uu 47) (Uz 9) rfl rfl (by omega) rfl ?_
                refine (QS) ?_
                refine e_stOwn (i := 1) hf0_1 (Uz 9) rfl rfl rfl rfl (by omega) rfl fun oz8_2 ho8_2 => ?_
                refine Qn<|Qp<|(Q2 1)<|(Qm)<|Qn ?_
                refine QzL ⟨i + 1, (insT L (ps.getD i 0)), (ps.getD i 0), _, rfl, rfl, rfl, by omega, (by first | exact own_fix (own_setT ho8_2) (insT_len L _).symm (by rw [insT_zero hx0]) | exact own_fix (own_setT ho8_2) (insT_len L _).symm (by rw [insT_more hx0 hxk])), (insT_len L _).trans hf0_2, (hf0_3.trans (pf_step (by omega) hxr hxl)), (by have := insT_short (ps.getD i 0) hf0_4; rw [show 30 + 4 * (i + 1) = 30 + 4 * i + 4 by omega]; exact this)⟩ ⟨rfl, rfl, rfl, rfl, rfl, rfl, rfl, rfl, rfl, trivial⟩ ⟨rfl, rfl, trivial⟩ ?_
                omega
              · intro hc5
                have hx0 := of_decide_eq_false hc5
                refine Qp<|(Qm)<|(Qm) ?_
                obtain ⟨k, hxk⟩ : ∃ k : Nat, ps.getD i 0 = (k : Int) := ⟨(ps.getD i 0).toNat, by omega⟩
                refine e_add_i (p := 1) (q := k) rfl (congrArg (fun z => some (Value.int .i64 z)) hxk) rfl (by omega) ?_
                refine e_atV hf0_1.shows (Uu 47) (Uz 9) rfl rfl (by omega) rfl ?_
                refine (QS) ?_
                refine e_loadV hf0_1.shows (seenM 1 rfl ⟨[], trivial⟩) (Uu 9) rfl rfl (texts_at (by omega)) rfl ?_
                refine e_catS (k := [32, 112, 115, 107]) rfl rfl rfl (by have := (short_at (i := 1 + k) hf0_4).2; simp only [List.length_cons, List.length_nil]; omega) ?_
                refine e_atV hf0_1.shows (Uu 47) (Uz 9) rfl rfl (by omega) rfl ?_
                refine (QS) ?_
                refine e_stOwn (i := 1) hf0_1 (Uz 9) rfl rfl rfl rfl (by omega) rfl fun oz8_2 ho8_2 => ?_
                refine Qn<|Qp<|(Q2 1)<|(Qm)<|Qn ?_
                refine QzL ⟨i + 1, (insT L (ps.getD i 0)), (ps.getD i 0), _, rfl, rfl, rfl, by omega, (by first | exact own_fix (own_setT ho8_2) (insT_len L _).symm (by rw [insT_zero hx0]) | exact own_fix (own_setT ho8_2) (insT_len L _).symm (by rw [insT_more hx0 hxk])), (insT_len L _).trans hf0_2, (hf0_3.trans (pf_step (by omega) hxr hxl)), (by have := insT_short (ps.getD i 0) hf0_4; rw [show 30 + 4 * (i + 1) = 30 + 4 * i + 4 by omega]; exact this)⟩ ⟨rfl, rfl, rfl, rfl, rfl, rfl, rfl, rfl, rfl, trivial⟩ ⟨rfl, rfl, trivial⟩ ?_
                omega
      · intro hc2
        have hc2 := of_decide_eq_false hc2
        have hz0 : i = ps.length := by omega
        exact absurd (by rw [← he, hpw, hf0_3, pf_end hz0]) h0
end Go.Proofs.YtejejmhbhegneaaDoor
