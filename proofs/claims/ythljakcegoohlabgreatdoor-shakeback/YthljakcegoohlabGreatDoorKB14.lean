import Derived.Test.YthljakcegoohlabGreatDoorKB13
namespace Go.Proofs.YthljakcegoohlabGreatDoor
open Go Go.RowKit
variable {G : Mem}
set_option maxHeartbeats 4000000 in
theorem based_fn (l : List Nat) (hl : ∀ b ∈ l, b < 256) (h0 : ptext l ≠ []) : Fx Tryz.prog G [] 46 #[sv l] (fun v l1 nw => l1 = [] ∧ ∃ os, nw = flatO os ∧ ∃ v', v = .tuple #[v', .bool true] ∧ BaseIs 3 23 l (decide (l = nXF)) (bQ l 0) (bQ l 1) (bU l) v' os) := by
  refine fxO2 (n := 76) Tryz.func46 rfl rfl (by simp) (argE [sv l] 0) (argE_ok _) ?_
  refine Qs<|Qp<|(QH 0) fun r1=>(Qa)<|Qn<|Qs<|Qp<|(QH 1) fun r2=>Qn<|Qs<|Qs<|Qp<|(Qm)<|Qn<|Qb<|Qs<|Qp ?_
  refine e_eqStr (k := [78, 78]) rfl rfl rfl hl (by decide) ?_
  refine (Qa)<|Qn ?_
  refine e_cond rfl ?_ ?_
  · intro hc0
    obtain rfl : l = nNN := of_decide_eq_true hc0
    refine Qs<|Qp<|(Qf 0) ?_
    refine e_stV (i := 1) 0 (Uz 9) rfl rfl rfl rfl rfl (by decide) (.inl rfl) ?_
    refine Qn<|Qp ?_
    refine e_buildSl 2 #[ii 1] (Uu 23 rfl) (Uz 3 rfl) (Ub 3 rfl) (by decide) (by decide) rfl (by kernel_rfl) rfl fun r3 => ?_
    refine e_buildSl 3 #[ii 1, ii 3] (Uu 23 rfl) (Uz 3 rfl) (Ub 3 rfl) (by decide) (by decide) rfl (by kernel_rfl) rfl fun r4 => ?_
    refine e_buildSl 4 #[slv r3 1, slv r4 2] (Uu 25 rfl) (Uz 23 rfl) (Ub 23 rfl) (by decide) (by decide) rfl (fill2v (by simp) rfl rfl) rfl fun r5 => ?_
    refine (Qf 5) ?_
    refine e_stV (i := 1) 5 (Uz 25) rfl rfl rfl rfl rfl (by decide) (.inl rfl) ?_
    refine Qn<|Qs<|Qp<|(QD 1) ?_
    refine e_storeA (i := 0) (Uz 27) rfl rfl (arrv_size _ _) (cells_one ⟨fun _ => rfl, fun _ => rfl, fun _ => rfl, fun _ => rfl, fun _ => rfl, fun _ => rfl, trivial⟩) rfl cells_sz (.inl rfl) ?_
    refine (Qa)<|Qn<|Qr ?_
    exact ⟨_, _, _, _, [90, 91, 2, 3, 92, 4], rfl, .cell (i := 0) rfl rfl (Uu 27) rfl (Uz 27) (arrv_size _ _), .tmp rfl, (by rw [tab_NN.1, tab_NN.2.1, tab_NN.2.2]; exact base_two [1] [1, 3] (own_nil _ _) (own_nil _ _) (by decide) (by decide)), by decide, rfl⟩
  · intro hc0
    have hn0 := of_decide_eq_false hc0
    refine Qs<|Qp ?_
    refine e_eqStr (k := [78, 75]) rfl rfl rfl hl (by decide) ?_
    refine (Qa)<|Qn ?_
    refine e_cond rfl ?_ ?_
    · intro hc1
      obtain rfl : l = nNK := of_decide_eq_true hc1
      refine Qs<|Qp<|(Qf 0) ?_
      refine e_stV (i := 1) 0 (Uz 9) rfl rfl rfl rfl rfl (by decide) (.inl rfl) ?_
      refine Qn<|Qs<|Qp ?_
      refine e_buildSl 2 #[ii 2] (Uu 23 rfl) (Uz 3 rfl) (Ub 3 rfl) (by decide) (by decide) rfl (by kernel_rfl) rfl fun r3 => ?_
      refine (Qf 3)<|(QA 4 1) ?_
      refine e_stV (i := 1) 4 (Uz 23) rfl rfl rfl rfl rfl (by decide) (.inl rfl) ?_
      refine Qn<|Qp ?_
      refine e_buildSl 3 #[ii 1, ii 4] (Uu 23 rfl) (Uz 3 rfl) (Ub 3 rfl) (by decide) (by decide) rfl (by kernel_rfl) rfl fun r4 => ?_
      refine e_buildSl 4 #[ii 1, ii 3] (Uu 23 rfl) (Uz 3 rfl) (Ub 3 rfl) (by decide) (by decide) rfl (by kernel_rfl) rfl fun r5 => ?_
      refine e_buildSl 5 #[slv r4 2, slv r5 2] (Uu 25 rfl) (Uz 23 rfl) (Ub 23 rfl) (by decide) (by decide) rfl (fill2v (by simp) rfl rfl) rfl fun r6 => ?_
      refine (Qf 5) ?_
      refine e_stV (i := 1) 5 (Uz 25) rfl rfl rfl rfl rfl (by decide) (.inl rfl) ?_
      refine Qn<|Qs<|Qp<|(QD 1) ?_
      refine e_storeA (i := 0) (Uz 27) rfl rfl (arrv_size _ _) (cells_one ⟨fun _ => rfl, fun _ => rfl, fun _ => rfl, fun _ => rfl, fun _ => rfl, fun _ => rfl, trivial⟩) rfl cells_sz (.inl rfl) ?_
      refine (Qa)<|Qn<|Qr ?_
      exact ⟨_, _, _, _, [90, 2, 3, 4, 92, 5], rfl, .cell (i := 0) rfl rfl (Uu 27) rfl (Uz 27) (arrv_size _ _), .tmp rfl, (by rw [tab_NK.1, tab_NK.2.1, tab_NK.2.2]; exact base_two [1, 4] [1, 3] (own_nil _ _) (own_lit 3 r3 [2] (by decide)) (by decide) (by decide)), by decide, rfl⟩
    · intro hc1
      have hn1 := of_decide_eq_false hc1
      refine Qs<|Qp ?_
      refine e_eqStr (k := [88, 88]) rfl rfl rfl hl (by decide) ?_
      refine (Qa)<|Qn ?_
      refine e_cond rfl ?_ ?_
      · intro hc2
        obtain rfl : l = nXX := of_decide_eq_true hc2
        refine Qs<|Qp<|(Qf 0) ?_
        refine e_stV (i := 1) 0 (Uz 9) rfl rfl rfl rfl rfl (by decide) (.inl rfl) ?_
        refine Qn<|Qp ?_
        refine e_buildSl 2 #[ii 1] (Uu 23 rfl) (Uz 3 rfl) (Ub 3 rfl) (by decide) (by decide) rfl (by kernel_rfl) rfl fun r3 => ?_
        refine e_buildSl 3 #[ii 1, ii 3, ii 2, ii 4] (Uu 23 rfl) (Uz 3 rfl) (Ub 3 rfl) (by decide) (by decide) rfl (by kernel_rfl) rfl fun r4 => ?_
        refine e_buildSl 4 #[ii 2, ii 5] (Uu 23 rfl) (Uz 3 rfl) (Ub 3 rfl) (by decide) (by decide) rfl (by kernel_rfl) rfl fun r5 => ?_
        refine e_buildSl 5 #[slv r3 1, slv r4 4, slv r5 2] (Uu 25 rfl) (Uz 23 rfl) (Ub 23 rfl) (by decide) (by decide) rfl (fill3 (by simp) rfl rfl rfl) rfl fun r6 => ?_
        refine (Qf 5) ?_
        refine e_stV (i := 1) 5 (Uz 25) rfl rfl rfl rfl rfl (by decide) (.inl rfl) ?_
        refine Qn<|Qs<|Qp<|(QD 1) ?_
        refine e_storeA (i := 0) (Uz 27) rfl rfl (arrv_size _ _) (cells_one ⟨fun _ => rfl, fun _ => rfl, fun _ => rfl, fun _ => rfl, fun _ => rfl, fun _ => rfl, trivial⟩) rfl cells_sz (.inl rfl) ?_
        refine (Qa)<|Qn<|Qr ?_
        exact ⟨_, _, _, _, [90, 91, 2, 3, 4, 5], rfl, .cell (i := 0) rfl rfl (Uu 27) rfl (Uz 27) (arrv_size _ _), .tmp rfl, (by rw [tab_XX.1, tab_XX.2.1, tab_XX.2.2]; exact base_three [1] [1, 3, 2, 4] [2, 5] (own_nil _ _) (own_nil _ _) (by decide) (by decide) (by decide)), by decide, rfl⟩
      · intro hc2
        have hn2 := of_decide_eq_false hc2
        refine Qs<|Qp ?_
        refine e_eqStr (k := [73, 75]) rfl rfl rfl hl (by decide) ?_
        refine (Qa)<|Qn ?_
        refine e_cond rfl ?_ ?_
        · intro hc3
          obtain rfl : l = nIK := of_decide_eq_true hc3
          refine Qs<|Qp<|(Qf 0) ?_
          refine e_stV (i := 1) 0 (Uz 9) rfl rfl rfl rfl rfl (by decide) (.inl rfl) ?_
          refine Qn<|Qs<|Qp ?_
          refine e_buildSl 2 #[ii 2] (Uu 23 rfl) (Uz 3 rfl) (Ub 3 rfl) (by decide) (by decide) rfl (by kernel_rfl) rfl fun r3 => ?_
          refine (Qf 3)<|(QA 4 1) ?_
          refine e_stV (i := 1) 4 (Uz 23) rfl rfl rfl rfl rfl (by decide) (.inl rfl) ?_
          refine Qn<|Qp ?_
          refine e_buildSl 3 #[ii 1, ii 4, ii 2, ii 6] (Uu 23 rfl) (Uz 3 rfl) (Ub 3 rfl) (by decide) (by decide) rfl (by kernel_rfl) rfl fun r4 => ?_
          refine e_buildSl 4 #[ii 1, ii 3, ii 5] (Uu 23 rfl) (Uz 3 rfl) (Ub 3 rfl) (by decide) (by decide) rfl (by kernel_rfl) rfl fun r5 => ?_
          refine e_buildSl 5 #[slv r4 4, slv r5 3] (Uu 25 rfl) (Uz 23 rfl) (Ub 23 rfl) (by decide) (by decide) rfl (fill2v (by simp) rfl rfl) rfl fun r6 => ?_
          refine (Qf 5) ?_
          refine e_stV (i := 1) 5 (Uz 25) rfl rfl rfl rfl rfl (by decide) (.inl rfl) ?_
          refine Qn<|Qs<|Qp<|(QD 1) ?_
          refine e_storeA (i := 0) (Uz 27) rfl rfl (arrv_size _ _) (cells_one ⟨fun _ => rfl, fun _ => rfl, fun _ => rfl, fun _ => rfl, fun _ => rfl, fun _ => rfl, trivial⟩) rfl cells_sz (.inl rfl) ?_
          refine (Qa)<|Qn<|Qr ?_
          exact ⟨_, _, _, _, [90, 2, 3, 4, 92, 5], rfl, .cell (i := 0) rfl rfl (Uu 27) rfl (Uz 27) (arrv_size _ _), .tmp rfl, (by rw [tab_IK.1, tab_IK.2.1, tab_IK.2.2]; exact base_two [1, 4, 2, 6] [1, 3, 5] (own_nil _ _) (own_lit 3 r3 [2] (by decide)) (by decide) (by decide)), by decide, rfl⟩
        · intro hc3
          have hn3 := of_decide_eq_false hc3
          refine Qs<|Qp ?_
          refine e_eqStr (k := [88, 75]) rfl rfl rfl hl (by decide) ?_
          refine (Qa)<|Qn ?_
          refine e_cond rfl ?_ ?_
          · intro hc4
            obtain rfl : l = nXK := of_decide_eq_true hc4
            refine Qs<|Qp<|(Qf 0) ?_
            refine e_stV (i := 1) 0 (Uz 9) rfl rfl rfl rfl rfl (by decide) (.inl rfl) ?_
            refine Qn<|Qs<|Qp ?_
            refine e_buildSl 2 #[ii 2] (Uu 23 rfl) (Uz 3 rfl) (Ub 3 rfl) (by decide) (by decide) rfl (by kernel_rfl) rfl fun r3 => ?_
            refine (Qf 3)<|(QA 4 1) ?_
            refine e_stV (i := 1) 4 (Uz 23) rfl rfl rfl rfl rfl (by decide) (.inl rfl) ?_
            refine Qn<|Qp ?_
            refine e_buildSl 3 #[ii 1, ii 4] (Uu 23 rfl) (Uz 3 rfl) (Ub 3 rfl) (by decide) (by decide) rfl (by kernel_rfl) rfl fun r4 => ?_
            refine e_buildSl 4 #[ii 1, ii 3] (Uu 23 rfl) (Uz 3 rfl) (Ub 3 rfl) (by decide) (by decide) rfl (by kernel_rfl) rfl fun r5 => ?_
            refine e_buildSl 5 #[ii 2, ii 5] (Uu 23 rfl) (Uz 3 rfl) (Ub 3 rfl) (by decide) (by decide) rfl (by kernel_rfl) rfl fun r6 => ?_
            refine e_buildSl 6 #[slv r4 2, slv r5 2, slv r6 2] (Uu 25 rfl) (Uz 23 rfl) (Ub 23 rfl) (by decide) (by decide) rfl (fill3 (by simp) rfl rfl rfl) rfl fun r7 => ?_
            refine (Qf 5) ?_
            refine e_stV (i := 1) 5 (Uz 25) rfl rfl rfl rfl rfl (by decide) (.inl rfl) ?_
            refine Qn<|Qs<|Qp<|(QD 1) ?_
            refine e_storeA (i := 0) (Uz 27) rfl rfl (arrv_size _ _) (cells_one ⟨fun _ => rfl, fun _ => rfl, fun _ => rfl, fun _ => rfl, fun _ => rfl, fun _ => rfl, trivial⟩) rfl cells_sz (.inl rfl) ?_
            refine (Qa)<|Qn<|Qr ?_
            exact ⟨_, _, _, _, [90, 2, 3, 4, 5, 6], rfl, .cell (i := 0) rfl rfl (Uu 27) rfl (Uz 27) (arrv_size _ _), .tmp rfl, (by rw [tab_XK.1, tab_XK.2.1, tab_XK.2.2]; exact base_three [1, 4] [1, 3] [2, 5] (own_nil _ _) (own_lit 3 r3 [2] (by decide)) (by decide) (by decide) (by decide)), by decide, rfl⟩
          · intro hc4
            have hn4 := of_decide_eq_false hc4
            refine Qs<|Qp ?_
            refine e_eqStr (k := [75, 75]) rfl rfl rfl hl (by decide) ?_
            refine (Qa)<|Qn ?_
            refine e_cond rfl ?_ ?_
            · intro hc5
              obtain rfl : l = nKK := of_decide_eq_true hc5
              refine Qs<|Qp<|(Qf 0) ?_
              refine e_stV (i := 1) 0 (Uz 9) rfl rfl rfl rfl rfl (by decide) (.inl rfl) ?_
              refine Qn<|Qs<|Qp ?_
              refine e_buildSl 2 #[ii 2] (Uu 23 rfl) (Uz 3 rfl) (Ub 3 rfl) (by decide) (by decide) rfl (by kernel_rfl) rfl fun r3 => ?_
              refine e_buildSl 3 #[ii 2] (Uu 23 rfl) (Uz 3 rfl) (Ub 3 rfl) (by decide) (by decide) rfl (by kernel_rfl) rfl fun r4 => ?_
              refine e_build (arrv 2 (fun i => if i = 0 then slv r3 1 else slv r4 1)) (Ub 24 rfl) (Uu 24 rfl) (Uz 23 rfl) rfl (fill2v (by rfl) rfl rfl) rfl ?_
              refine (Qf 3) ?_
              refine e_stP (i := 1) (Uz 24) rfl rfl (fun j hj => by rcases (by omega : j = 0 ∨ j = 1) with rfl | rfl <;> rfl) rfl (by decide) (.inl rfl) ?_
              refine e_blk (c' := (cells 6 [pV (sv nKK), pV (.bool false), pV nilS, pV (slv r3 1), pV (slv r4 1), pV nilS])) (arrv_congr fun j hj => by rcases (by omega : j = 0 ∨ j = 1 ∨ j = 2 ∨ j = 3 ∨ j = 4 ∨ j = 5) with rfl | rfl | rfl | rfl | rfl | rfl <;> rfl) ?_
              refine Qn<|Qp ?_
              refine e_buildSl 4 #[ii 1, ii 4, ii 6] (Uu 23 rfl) (Uz 3 rfl) (Ub 3 rfl) (by decide) (by decide) rfl (by kernel_rfl) rfl fun r5 => ?_
              refine e_buildSl 5 #[ii 1, ii 3, ii 5] (Uu 23 rfl) (Uz 3 rfl) (Ub 3 rfl) (by decide) (by decide) rfl (by kernel_rfl) rfl fun r6 => ?_
              refine e_buildSl 6 #[slv r5 3, slv r6 3] (Uu 25 rfl) (Uz 23 rfl) (Ub 23 rfl) (by decide) (by decide) rfl (fill2v (by simp) rfl rfl) rfl fun r7 => ?_
              refine (Qf 5) ?_
              refine e_stV (i := 1) 5 (Uz 25) rfl rfl rfl rfl rfl (by decide) (.inl rfl) ?_
              refine Qn<|Qs<|Qp<|(QD 1) ?_
              refine e_storeA (i := 0) (Uz 27) rfl rfl (arrv_size _ _) (cells_one ⟨fun _ => rfl, fun _ => rfl, fun _ => rfl, fun _ => rfl, fun _ => rfl, fun _ => rfl, trivial⟩) rfl cells_sz (.inl rfl) ?_
              refine (Qa)<|Qn<|Qr ?_
              exact ⟨_, _, _, _, [2, 3, 4, 5, 92, 6], rfl, .cell (i := 0) rfl rfl (Uu 27) rfl (Uz 27) (arrv_size _ _), .tmp rfl, (by rw [tab_KK.1, tab_KK.2.1, tab_KK.2.2]; exact base_two [1, 4, 6] [1, 3, 5] (own_lit 3 r3 [2] (by decide)) (own_lit 3 r4 [2] (by decide)) (by decide) (by decide)), by decide, rfl⟩
            · intro hc5
              have hn5 := of_decide_eq_false hc5
              refine Qs<|Qp ?_
              refine e_eqStr (k := [88, 88, 102, 97, 108, 108, 98, 97, 99, 107]) rfl rfl rfl hl (by decide) ?_
              refine (Qa)<|Qn ?_
              refine e_cond rfl ?_ ?_
              · intro hc6
                obtain rfl : l = nXF := of_decide_eq_true hc6
                refine Qs<|Qp<|(Qf 0) ?_
                refine e_stV (i := 1) 0 (Uz 9) rfl rfl rfl rfl rfl (by decide) (.inl rfl) ?_
                refine (Qf 1) ?_
                refine e_stV (i := 1) 1 (Uz 4) rfl rfl rfl rfl rfl (by decide) (.inl rfl) ?_
                refine Qn<|Qs<|Qp ?_
                refine e_buildSl 2 #[ii 1] (Uu 23 rfl) (Uz 3 rfl) (Ub 3 rfl) (by decide) (by decide) rfl (by kernel_rfl) rfl fun r3 => ?_
                refine (Qf 3)<|(QA 3 0) ?_
                refine e_stV (i := 1) 3 (Uz 23) rfl rfl rfl rfl rfl (by decide) (.inl rfl) ?_
                refine Qn<|Qp ?_
                refine e_buildSl 3 #[ii 1, ii 3, ii 2, ii 4] (Uu 23 rfl) (Uz 3 rfl) (Ub 3 rfl) (by decide) (by decide) rfl (by kernel_rfl) rfl fun r4 => ?_
                refine e_buildSl 4 #[ii 2, ii 5] (Uu 23 rfl) (Uz 3 rfl) (Ub 3 rfl) (by decide) (by decide) rfl (by kernel_rfl) rfl fun r5 => ?_
                refine e_buildSl 5 #[slv r4 4, slv r5 2] (Uu 25 rfl) (Uz 23 rfl) (Ub 23 rfl) (by decide) (by decide) rfl (fill2v (by simp) rfl rfl) rfl fun r6 => ?_
                refine (Qf 5) ?_
                refine e_stV (i := 1) 5 (Uz 25) rfl rfl rfl rfl rfl (by decide) (.inl rfl) ?_
                refine Qn<|Qs<|Qp<|(QD 1) ?_
                refine e_storeA (i := 0) (Uz 27) rfl rfl (arrv_size _ _) (cells_one ⟨fun _ => rfl, fun _ => rfl, fun _ => rfl, fun _ => rfl, fun _ => rfl, fun _ => rfl, trivial⟩) rfl cells_sz (.inl rfl) ?_
                refine (Qa)<|Qn<|Qr ?_
                exact ⟨_, _, _, _, [2, 91, 3, 4, 92, 5], rfl, .cell (i := 0) rfl rfl (Uu 27) rfl (Uz 27) (arrv_size _ _), .tmp rfl, (by rw [tab_XF.1, tab_XF.2.1, tab_XF.2.2]; exact base_two [1, 3, 2, 4] [2, 5] (own_lit 3 r3 [1] (by decide)) (own_nil _ _) (by decide) (by decide)), by decide, rfl⟩
              · intro hc6
                have hn6 := of_decide_eq_false hc6
                exact absurd (ptext_no hn0 hn1 hn2 hn3 hn4 hn5 hn6) h0
end Go.Proofs.YthljakcegoohlabGreatDoor
namespace Go.Proofs.YthljakcegoohlabGreatDoor
open Go Go.RowKit
variable {G : Mem}
end Go.Proofs.YthljakcegoohlabGreatDoor
namespace Go.Proofs.YthljakcegoohlabGreatDoor
open Go Go.RowKit
variable {G : Mem}
set_option maxHeartbeats 8000000 in
theorem dwith_ok (l : List Nat) (v : Value) (ps : List Int) (hl : ∀ b ∈ l, b < 256) (hv : Shows G 1 v ps.length (ps.map iv)) (hz : ps.length ≤ 9223372036854775807) (he : (pwith l ps).1 = 0) : Fx Tryz.prog G [] 24 #[sv l, v] (fun w l1 nw => l1 = [] ∧ ∃ w', w = .tuple #[w', ii 0] ∧ PatIsI l (decide (l = nXF)) ps (wq l ps 0) (wq l ps 1) (wt l ps) w' nw) := by
  obtain ⟨h0, hps4, _⟩ := pwith_in he
  have hpc : pchk (bU l).length ps = 0 := by rw [(bU_len h0).1, ← pwith_pchk h0]; exact he
  obtain ⟨hp4, hpb⟩ := pchk_bound hpc
  obtain ⟨hw1, hw2, hw3⟩ := with_rows he
  rw [hw1, hw2, hw3]
  obtain ⟨_, hb2, hb3, hb4⟩ := bU_len h0
  refine fxD2 (n := 44) Tryz.func24 rfl rfl (by simp) (argE [sv l, v] 0) (argE_ok _) ?_
  refine Qs<|Qp<|(QH 0) fun r1=>(Qa)<|Qn<|Qs<|QR ⟨[], 4, [], none⟩<|(Qm) ?_
  refine e_callO 50 rfl rfl (Un 46) seenG (based_fn l hl h0) (base_room 3 23 l (decide (l = nXF)) (bQ l 0) (bQ l 1) (bU l) (.bool true) (by have := (bQ_len h0).1; omega) (by have := (bQ_len h0).2; omega) (fun q hq => by have := (bU_len h0).2.2.2 q hq; omega) (by have := (bU_len h0).2.1; have := (bU_len h0).2.2.1; omega)) rfl rfl fun v1_1 os1_1 hO1_1 => ?_
  obtain ⟨v9, rfl, va, vb, TF, oa, ob, o0, o1, o2, rT, rfl, rfl, hA, hB, hR⟩ := hO1_1
  simp only [labO]
  refine (Qm)<|(Qx)<|(Qx)<|(QH 1) fun r2=>?_
  refine e_storeA (i := 1) (Uz 27) rfl rfl (arrv_size _ _) (catOkP rfl (shows_oneC hA.shows) (shows_oneC hB.shows) rfl) rfl cells_sz (.inl rfl) ?_
  refine (Qa)<|Qn<|Qs<|Qs<|Qp<|(Qm)<|(Q0)<|Qn<|(Qcf)<|Qk<|Qs<|Qs<|Qp<|(Qm)<|(Qf 5)<|(QV 5 1) ?_
  refine e_lenSl (Uu 25) rfl rfl rfl ?_
  refine e_as (show _ = ii (bU l).length from rfl) ?_
  refine e_call rfl (Un 47) (chkpl_fn v ps (bU l).length hv hz) rfl rfl ?_
  refine e_as (congrArg ii hpc) ?_
  refine (Qa)<|Qn<|Qs<|Qp<|(Qm)<|(QN) ?_
  refine e_as (congrArg Value.bool (decide_eq_false (by decide))) ?_
  refine Qn<|(Qcf)<|Qk<|Qs<|Qp ?_
  refine e_buildSl0 2 (Uu 23 rfl) (Uz 3 rfl) rfl fun r3 => ?_
  refine (Qm) ?_
  refine e_append 2 own_none hv rfl seenG (Uu 23) (Uz 3) (Uy 3) (Ub 3) (by rfl) rfl rfl iv_one (by simp only [maxLen]; omega) (by omega) rfl fun v3_2 oz3_2 ho3_2 => ?_
  refine (Qf 2) ?_
  refine e_stV (i := 1) 2 (Uz 23) rfl rfl (shows_oneC ho3_2.shows) rfl rfl (by decide) (.inl rfl) ?_
  refine Qn<|Qs<|Qs<|Qp<|(Qm)<|(QC hv)<|(Qm)<|Qn<|Qb ?_
  refine QzK [(4, _), (5, _), (6, _), (32, _), (33, _)] [(0, _), (1, _), (2, oz3_2), (50, oa), (51, ob)] (fun kk E m => ∃ (i : Nat) (TF1 : Nat → Value) (p0 : Option Blk) (p1 : Option Blk) (p2 : Option Blk), kk = ps.length - i ∧ E = [(34, ii i)] ∧ m = [(52, p0), (53, p1), (54, p2), (55, (some ⟨rT, arrv (bU l).length TF1, 23⟩))] ∧ (i ≤ ps.length) ∧ (RowsIs 3 TF1 ((ps.take i).foldl insU (bU l)) p0 p1 p2) ∧ (∀ q ∈ (ps.take i).foldl insU (bU l), q.length ≤ 4 + i)) ⟨0, TF, o0, o1, o2, rfl, rfl, rfl, by omega, (by rw [List.take_zero]; exact hR), (by rw [List.take_zero]; exact hb4)⟩ ⟨rfl, rfl, rfl, rfl, rfl, rfl, trivial⟩ ⟨rfl, rfl, rfl, rfl, rfl, rfl, rfl, rfl, rfl, trivial⟩ ?_
  rintro kk E m ⟨i, TF1, p0, p1, p2, rfl, rfl, rfl, hf0_0, hf0_1, hf0_2⟩
  simp only [catE, catL]
  refine Qs<|Qp<|(Ql)<|Qn<|Qs ?_
  refine e_cond rfl ?_ ?_
  · intro hc2
    have hc2 : i < ps.length := by have := of_decide_eq_true hc2; omega
    refine Qk<|Qs<|Qb<|Qs<|Qp ?_
    refine e_atV hv (Uu 23) (Uz 3) rfl rfl (by omega) rfl ?_
    refine (QS) ?_
    obtain ⟨n9, hn9⟩ : ∃ n9 : Nat, ps.getD i 0 = (n9 : Int) := ⟨(ps.getD i 0).toNat, by have := hpb i (by omega); omega⟩
    refine e_loadV hv seenG (Uu 3) rfl rfl (iv_at (by omega)) rfl ?_
    refine e_as (show _ = ii n9 from congrArg (Value.int .i64) hn9) ?_
    refine (Qa)<|Qn ?_
    have hnb : n9 ≤ (bU l).length := by have := hpb i (by omega); omega
    have hrl := rowN_le hf0_2 (n9 - 1)
    rcases (by omega : n9 - 1 = 0 ∨ n9 - 1 = 1 ∨ n9 - 1 = 2) with hr | hr | hr
    · skip
      refine QR ⟨[], 5, [], none⟩ ?_
      have hRr : OwnS 3 1 (TF1 (n9 - 1)) (((ps.take i).foldl insU (bU l)).getD (n9 - 1) []).length (iis (((ps.take i).foldl insU (bU l)).getD (n9 - 1) [])) p0.toList := by (have h9 := hf0_1 (n9 - 1) (by rw [foldU_len]; omega)); rw [show ox p0 p1 p2 (n9 - 1) = p0 by rw [hr]; rfl] at h9; exact h9
      refine (Qf 5)<|(QV 5 1)<|(Qm) ?_
      refine e_callT 55 52 rfl rfl (Un 48) rfl rfl (by decide) (fun z hz => .inl hz) (fun hne => putpsk_fn (G := G) rT (bU l).length n9 TF1 (((ps.take i).foldl insU (bU l)).getD (n9 - 1) []) p0 hRr (by omega) (by omega) (by omega) hne) (fun m' => by obtain ⟨w, oz, h1, h2⟩ := own_fresh m' 3 (insR n9 (((ps.take i).foldl insU (bU l)).getD (n9 - 1) [])) (by rw [insR_len]; omega); exact ⟨_, _, oz, ⟨rfl, w, rfl, h1⟩, h2⟩) rfl rfl fun v5_3 c5_3 oz5_3 hS5_3 => ?_
      obtain ⟨rfl, w9, rfl, ho9⟩ := hS5_3
      refine Qn<|Qp<|(Q2 1)<|(Qm)<|Qn ?_
      refine QzL ⟨i + 1, _, _, _, _, rfl, rfl, rfl, by omega, (by (have h9 := rows_set (j := n9 - 1) hf0_1 (by omega) ho9); rw [if_pos hr, if_neg (by omega), if_neg (by omega)] at h9; rw [fold_step (by omega), hn9, insU_insR]; exact h9), (fun q hq => by rw [fold_step (by omega)] at hq; have := insU_row hf0_2 q hq; omega)⟩ ⟨rfl, rfl, rfl, rfl, rfl, rfl, trivial⟩ ⟨rfl, rfl, rfl, rfl, rfl, rfl, rfl, rfl, rfl, trivial⟩ ?_
      omega
    · skip
      refine QR ⟨[], 5, [], none⟩ ?_
      have hRr : OwnS 3 1 (TF1 (n9 - 1)) (((ps.take i).foldl insU (bU l)).getD (n9 - 1) []).length (iis (((ps.take i).foldl insU (bU l)).getD (n9 - 1) [])) p1.toList := by (have h9 := hf0_1 (n9 - 1) (by rw [foldU_len]; omega)); rw [show ox p0 p1 p2 (n9 - 1) = p1 by rw [hr]; rfl] at h9; exact h9
      refine (Qf 5)<|(QV 5 1)<|(Qm) ?_
      refine e_callT 55 53 rfl rfl (Un 48) rfl rfl (by decide) (fun z hz => .inl hz) (fun hne => putpsk_fn (G := G) rT (bU l).length n9 TF1 (((ps.take i).foldl insU (bU l)).getD (n9 - 1) []) p1 hRr (by omega) (by omega) (by omega) hne) (fun m' => by obtain ⟨w, oz, h1, h2⟩ := own_fresh m' 3 (insR n9 (((ps.take i).foldl insU (bU l)).getD (n9 - 1) [])) (by rw [insR_len]; omega); exact ⟨_, _, oz, ⟨rfl, w, rfl, h1⟩, h2⟩) rfl rfl fun v5_3 c5_3 oz5_3 hS5_3 => ?_
      obtain ⟨rfl, w9, rfl, ho9⟩ := hS5_3
      refine Qn<|Qp<|(Q2 1)<|(Qm)<|Qn ?_
      refine QzL ⟨i + 1, _, _, _, _, rfl, rfl, rfl, by omega, (by (have h9 := rows_set (j := n9 - 1) hf0_1 (by omega) ho9); rw [if_neg (by omega), if_pos hr, if_neg (by omega)] at h9; rw [fold_step (by omega), hn9, insU_insR]; exact h9), (fun q hq => by rw [fold_step (by omega)] at hq; have := insU_row hf0_2 q hq; omega)⟩ ⟨rfl, rfl, rfl, rfl, rfl, rfl, trivial⟩ ⟨rfl, rfl, rfl, rfl, rfl, rfl, rfl, rfl, rfl, trivial⟩ ?_
      omega
    · skip
      refine QR ⟨[], 5, [], none⟩ ?_
      have hRr : OwnS 3 1 (TF1 (n9 - 1)) (((ps.take i).foldl insU (bU l)).getD (n9 - 1) []).length (iis (((ps.take i).foldl insU (bU l)).getD (n9 - 1) [])) p2.toList := by (have h9 := hf0_1 (n9 - 1) (by rw [foldU_len]; omega)); rw [show ox p0 p1 p2 (n9 - 1) = p2 by rw [hr]; rfl] at h9; exact h9
      refine (Qf 5)<|(QV 5 1)<|(Qm) ?_
      refine e_callT 55 54 rfl rfl (Un 48) rfl rfl (by decide) (fun z hz => .inl hz) (fun hne => putpsk_fn (G := G) rT (bU l).length n9 TF1 (((ps.take i).foldl insU (bU l)).getD (n9 - 1) []) p2 hRr (by omega) (by omega) (by omega) hne) (fun m' => by obtain ⟨w, oz, h1, h2⟩ := own_fresh m' 3 (insR n9 (((ps.take i).foldl insU (bU l)).getD (n9 - 1) [])) (by rw [insR_len]; omega); exact ⟨_, _, oz, ⟨rfl, w, rfl, h1⟩, h2⟩) rfl rfl fun v5_3 c5_3 oz5_3 hS5_3 => ?_
      obtain ⟨rfl, w9, rfl, ho9⟩ := hS5_3
      refine Qn<|Qp<|(Q2 1)<|(Qm)<|Qn ?_
      refine QzL ⟨i + 1, _, _, _, _, rfl, rfl, rfl, by omega, (by (have h9 := rows_set (j := n9 - 1) hf0_1 (by omega) ho9); rw [if_neg (by omega), if_neg (by omega), if_pos hr] at h9; rw [fold_step (by omega), hn9, insU_insR]; exact h9), (fun q hq => by rw [fold_step (by omega)] at hq; have := insU_row hf0_2 q hq; omega)⟩ ⟨rfl, rfl, rfl, rfl, rfl, rfl, trivial⟩ ⟨rfl, rfl, rfl, rfl, rfl, rfl, rfl, rfl, rfl, trivial⟩ ?_
      omega
  · intro hc2
    have hc2 := of_decide_eq_false hc2
    have hz0 : i = ps.length := by omega
    refine Qe<|Qs<|Qp<|(QD 1) ?_
    refine e_freeze 2 [(0, _), (1, _), (50, _), (51, _), (52, _), (53, _), (54, _), (55, _)] rfl rfl (by repeat (first | exact bag_nil | exact bag_lab _ | apply bag_skip rfl)) ⟨rfl, rfl, rfl, rfl, rfl, rfl, rfl, rfl, trivial⟩ rfl rfl ?_
    simp only [catL]
    refine e_freeze 50 [(0, _), (1, _), (51, _), (52, _), (53, _), (54, _), (55, _)] rfl rfl (by repeat (first | exact bag_nil | exact bag_lab _ | apply bag_skip rfl)) ⟨rfl, rfl, rfl, rfl, rfl, rfl, rfl, trivial⟩ rfl rfl ?_
    simp only [catL]
    refine e_freeze 51 [(0, _), (1, _), (52, _), (53, _), (54, _), (55, _)] rfl rfl (by repeat (first | exact bag_nil | exact bag_lab _ | apply bag_skip rfl)) ⟨rfl, rfl, rfl, rfl, rfl, rfl, trivial⟩ rfl rfl ?_
    simp only [catL]
    refine e_freeze 52 [(0, _), (1, _), (53, _), (54, _), (55, _)] rfl rfl (by repeat (first | exact bag_nil | exact bag_lab _ | apply bag_skip rfl)) ⟨rfl, rfl, rfl, rfl, rfl, trivial⟩ rfl rfl ?_
    simp only [catL]
    refine e_freeze 53 [(0, _), (1, _), (54, _), (55, _)] rfl rfl (by repeat (first | exact bag_nil | exact bag_lab _ | apply bag_skip rfl)) ⟨rfl, rfl, rfl, rfl, trivial⟩ rfl rfl ?_
    simp only [catL]
    refine e_freeze 54 [(0, _), (1, _), (55, _)] rfl rfl (by repeat (first | exact bag_nil | exact bag_lab _ | apply bag_skip rfl)) ⟨rfl, rfl, rfl, trivial⟩ rfl rfl ?_
    simp only [catL]
    refine e_freeze 55 [(0, _), (1, _)] rfl rfl (by repeat (first | exact bag_nil | exact bag_lab _ | apply bag_skip rfl)) ⟨rfl, rfl, trivial⟩ rfl rfl ?_
    simp only [catL]
    refine e_storeA (i := 0) (Uz 27) rfl rfl (arrv_size _ _) (catOkP (shows_oneC ho3_2.shows) (shows_oneC hA.shows) (shows_oneC hB.shows) rfl) rfl cells_sz (.inl rfl) ?_
    refine (Qa)<|Qn<|Qr ?_
    exact ⟨_, _, _, ((((((([] ++ oz3_2.toList) ++ oa.toList) ++ ob.toList) ++ p0.toList) ++ p1.toList) ++ p2.toList) ++ (some ⟨rT, arrv (bU l).length TF1, 23⟩).toList), rfl, .cell (i := 0) rfl rfl (Uu 27) rfl (Uz 27) (arrv_size _ _), .tmp rfl, (by (have hR9 := hf0_1); rw [hz0, List.take_length] at hR9; exact with_pat (own_fix ho3_2 (Nat.zero_add _) rfl) hA hB hR9 (by rw [foldU_len]) (by intro o ho x hx; simp only [List.mem_cons, List.not_mem_nil, or_false] at ho; rcases ho with rfl | rfl | rfl | rfl | rfl | rfl <;> repeat (first | exact List.mem_append_right _ hx | apply List.mem_append_left)) (List.mem_append_right _ (List.mem_singleton.2 rfl))), (by repeat (first | exact bag_nil | exact bag_lab _ | apply bag_skip rfl))⟩
end Go.Proofs.YthljakcegoohlabGreatDoor
namespace Go.Proofs.YthljakcegoohlabGreatDoor
open Go Go.RowKit
variable {G : Mem}
set_option maxHeartbeats 4000000 in
theorem dp_n_ok (n : List Nat) (m : Int) (hn8 : ∀ b ∈ n, b < 256) (hz : n.length < 4294967281) (hb : bad1 n = false) (hi : ixp (midN n) = none) (he : (pwith (midN n) []).1 = 0) : Fx Tryz.prog (MLB m :: G) [] 10 #[sv n] (fun w l1 nw => l1 = [] ∧ ∃ w', w = .tuple #[w', ii 0] ∧ PatIs2 (midN n) (decide ((midN n) = nXF)) [] (wq (midN n) (ci []) 0) (wq (midN n) (ci []) 1) (wt (midN n) (ci [])) w' nw) := by
  have hmid : ∀ b ∈ midN n, b < 256 := fun b hb => hn8 b (List.mem_of_mem_drop (List.mem_of_mem_take hb))
  have hml : (midN n).length ≤ n.length := by unfold midN; simp; omega
  have hcl := cutP_len n hdN
  refine fxD2 (n := 21) Tryz.func10 rfl rfl (by simp) (argE [sv n] 0) (argE_ok _) ?_
  refine Qs<|Qp<|(QH 0) fun r1=>(Qa)<|Qn<|Qs<|Qp<|(Qm) ?_
  refine e_call rfl (Un 23) (apart_none n m hn8 hz hb hi) rfl rfl ?_
  refine (Qm)<|(Qx)<|(Qx)<|(Qx)<|(Qa)<|(Qa)<|(Qa)<|Qn<|Qs<|Qs<|Qp<|(Qm)<|(Q0)<|Qn<|(Qcf)<|Qk<|Qs<|QR ⟨[], 4, [], none⟩<|(Qm)<|(Qm) ?_
  refine e_callD [(0, _)] (by repeat (first | exact bag_nil | exact bag_lab _ | apply bag_skip rfl)) ⟨rfl, trivial⟩ rfl rfl rfl (Un 24) seenG (dwith_ok (G := (MLB m :: G)) (midN n) nilS [] hmid (.inl ⟨rfl, rfl, none, 0, rfl, fun _ => rfl⟩) (by simp) he) (pat_roomI (midN n) (decide ((midN n) = nXF)) [] (wq (midN n) [] 0) (wq (midN n) [] 1) (wt (midN n) [])) rfl rfl fun v2_1 nw2_1 hD2_1 => ?_
  simp only [catL]
  obtain ⟨_, rfl, vp1, hp1, va1, vb1, vt1, tv1, rfl, ha1, hb1, ht1, hn1, hl1⟩ := hD2_1
  refine (Qx)<|(Qx) ?_
  refine e_storeA (i := 0) (Uz 27) rfl rfl (arrv_size _ _) (catOkP (shows_oneC hp1) (shows_oneC ha1) (shows_oneC hb1) (shows_oneC ht1)) rfl cells_sz (.inl rfl) ?_
  refine (Qa)<|Qn<|Qr ?_
  exact ⟨_, _, _, ([] ++ nw2_1), rfl, .cell (i := 0) rfl rfl (Uu 27) rfl (Uz 27) (arrv_size _ _), .tmp rfl, (pat_two ⟨vp1, hp1, va1, vb1, vt1, tv1, rfl, ha1, hb1, ht1, hn1, hl1⟩), (by repeat (first | exact bag_nil | exact bag_lab _ | apply bag_skip rfl))⟩
end Go.Proofs.YthljakcegoohlabGreatDoor
