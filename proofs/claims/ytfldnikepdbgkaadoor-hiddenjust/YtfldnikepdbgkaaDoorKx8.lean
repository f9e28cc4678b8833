import Derived.Test.YtfldnikepdbgkaaDoorKx7
namespace Go.Proofs.YtfldnikepdbgkaaDoor
open Go Go.RowKit
variable {G : Mem}
set_option maxHeartbeats 2000000 in
theorem places_fn (t k : Nat) (ht : t ≤ 10) (hm : k ≤ 15) : Fx Tryd.prog G [] 12 #[ii t, ii k] (fun v l1 nw => l1 = [] ∧ ∃ v', v = v' ∧ OwnS 3 1 v' (plc t k).length ((plc t k).map (fun x : Nat => ii x)) nw) := by
  refine QfN Tryd.func12 ?_
  refine Qs<|Qp<|(Qa)<|Qn<|Qs<|Qp<|(Qa)<|Qn<|Qs<|Qs<|Qp<|(Qm)<|(Q2 1)<|(Qm)<|Qn<|Qb ?_
  refine QzK [(1, _), (4, _), (8, _)] [] (fun kk E m => ∃ (i : Nat) (w : Value) (oz : Option Blk), kk = (t + 1) - i ∧ E = [(5, w), (9, ii i)] ∧ m = [(50, oz)] ∧ (i ≤ (t + 1)) ∧ (OwnS 3 1 w (plcU k i).length ((plcU k i).map (fun x : Nat => ii x)) oz.toList)) ⟨0, nilS, none, rfl, rfl, rfl, by omega, (own_nil _ _)⟩ ⟨rfl, rfl, rfl, rfl, rfl, trivial⟩ ⟨rfl, trivial⟩ ?_
  rintro kk E m ⟨i, w, oz, rfl, rfl, rfl, hf0_0, hf0_1⟩
  simp only [catE, catL]
  have hul := plcU_len k i
  have hdv : k / 2 ^ i ≤ 15 := Nat.le_trans (Nat.div_le_self _ _) hm
  refine Qs<|Qp<|(Ql)<|Qn<|Qs ?_
  refine e_cond rfl ?_ ?_
  · intro hc0
    have hc0 : i < (t + 1) := by have := of_decide_eq_true hc0; omega
    refine Qk<|Qs<|Qb<|Qs<|Qp<|(Qm)<|(Qa)<|Qn<|Qs<|Qp<|(Qm)<|(Qm) ?_
    refine e_shr_i rfl rfl rfl (by omega) ?_
    refine e_and1 hdv rfl rfl rfl ?_
    refine (Qc)<|Qn ?_
    refine e_cond rfl ?_ ?_
    · intro hc1
      have hc1 : k / 2 ^ i % 2 = 1 := by have := of_decide_eq_true hc1; omega
      refine Qp<|(Qm)<|(Qm) ?_
      refine e_buildSl 0 #[ii i] (Uu 22 rfl) (Uz 3 rfl) (Ub 3 rfl) (by decide) (by decide) rfl (by kernel_rfl) rfl fun r1 => ?_
      refine e_append 50 hf0_1 (shows_new _ _ (by rfl)) rfl (seen1 0 rfl ⟨[], trivial⟩) (Uu 22) (Uz 3) (Uy 3) (Ub 3) (by rfl) rfl rfl (one_ii i) (by simp only [maxLen]; omega) (by omega) rfl fun v3_1 oz3_1 ho3_1 => ?_
      refine (Qa)<|Qn<|Qp<|(Q2 1)<|(Qm)<|Qn ?_
      refine QzL ⟨i + 1, _, _, rfl, rfl, rfl, by omega, (by first | exact own_fix ho3_1 (by rw [plcU_yes hc1, List.length_append]; rfl) (by rw [plcU_yes hc1, List.map_append]; rfl) | exact own_fix hf0_1 (by rw [plcU_no hc1]) (by rw [plcU_no hc1]))⟩ ⟨rfl, rfl, rfl, rfl, rfl, trivial⟩ ⟨rfl, trivial⟩ ?_
      omega
    · intro hc1
      have hc1 : ¬ k / 2 ^ i % 2 = 1 := by have := of_decide_eq_false hc1; omega
      refine Qk<|Qp<|(Q2 1)<|(Qm)<|Qn ?_
      refine QzL ⟨i + 1, _, _, rfl, rfl, rfl, by omega, (by first | exact own_fix ho3_1 (by rw [plcU_yes hc1, List.length_append]; rfl) (by rw [plcU_yes hc1, List.map_append]; rfl) | exact own_fix hf0_1 (by rw [plcU_no hc1]) (by rw [plcU_no hc1]))⟩ ⟨rfl, rfl, rfl, rfl, rfl, trivial⟩ ⟨rfl, trivial⟩ ?_
      omega
  · intro hc0
    have hc0 := of_decide_eq_false hc0
    have hz0 : i = (t + 1) := by omega
    refine Qe<|Qs<|Qp<|(Qm)<|(Qa)<|Qn<|Qr ?_
    exact ⟨_, _, _, 50, rfl, .tmp rfl, (own_fix hf0_1 (by rw [hz0]) (by rw [hz0])), rfl⟩
set_option maxHeartbeats 4000000 in
theorem patternOfI_fn (DG : Mem) (zn zm : Int) (hW : ∀ (G : Mem) (v : Value) (l : List Nat) (ps : List Int), (∀ b ∈ l, b < 256) → ps.length ≤ 1000000 → Shows (DG ++ G) 1 v ps.length (ps.map iv) → (pwith l ps).1 = 0 → Fx Tryd.prog (DG ++ G) [] 11 #[sv l, v] (fun w l1 nw => l1 = [] ∧ ∃ w', w = .tuple #[w', ii 0] ∧ PatIsI l (decide (l = nXF)) ps (wq l ps 0) (wq l ps 1) (wt l ps) w' nw)) : Fx Tryd.prog ((⟨0, (nm6.map sv).toArray, 41⟩ : Blk) :: (DG ++ G)) [] 5 #[.int .i64 zn, .int .i64 zm] (fun w l1 nw => l1 = [] ∧ ∃ w', w = .tuple #[w', .bool true] ∧ PatIs2 (nmK (pkn zn 6)) (decide ((nmK (pkn zn 6)) = nXF)) (psK (pkn zn 6) (pkn zm 16)) (wq (nmK (pkn zn 6)) (ci (psK (pkn zn 6) (pkn zm 16))) 0) (wq (nmK (pkn zn 6)) (ci (psK (pkn zn 6) (pkn zm 16))) 1) (wt (nmK (pkn zn 6)) (ci (psK (pkn zn 6) (pkn zm 16)))) w' nw) := by
  have hk := pkn_lt zn (m := 6) (by decide)
  have hj := pkn_lt zm (m := 16) (by decide)
  obtain ⟨hb1, hb2, hb3, hb4⟩ := base_ok _ hk
  have hwa := with_all _ hk _ hj
  refine fxD2 (n := 44) Tryd.func5 rfl rfl (by simp) (argE [.int .i64 zn, .int .i64 zm] 0) (argE_ok _) ?_
  refine Qs<|Qp<|(QH 0) fun r1=>(Qa)<|Qn<|Qs<|Qp<|(Qm) ?_
  refine e_call rfl (Un 6) (picked_fn zn 6 (by decide) (by decide)) rfl rfl ?_
  refine e_index0 (Uu 41) (Uz 9) rfl rfl hk rfl ?_
  refine e_load1g (i := 0) (Uu 9) rfl rfl rfl (nm6_at hk) rfl ?_
  refine (Qa)<|Qn<|Qs<|QR ⟨[], 4, [], none, none⟩<|(Qm) ?_
  refine e_callD [(0, _)] (by repeat (first | exact bag_nil | exact bag_lab _ | apply bag_skip rfl)) ⟨rfl, trivial⟩ rfl rfl rfl (Un 11) (seen_sub (fun x hx => List.mem_cons_of_mem _ hx)) (hW G nilS (nmK (pkn zn 6)) [] hb4 (by simp) (.inl ⟨rfl, rfl, none, 0, rfl, fun _ => rfl⟩) hb1) (pat_roomI (nmK (pkn zn 6)) (decide ((nmK (pkn zn 6)) = nXF)) [] (wq (nmK (pkn zn 6)) [] 0) (wq (nmK (pkn zn 6)) [] 1) (wt (nmK (pkn zn 6)) [])) rfl rfl fun v1_1 nw1_1 hD1_1 => ?_
  simp only [catL]
  obtain ⟨_, rfl, vp1, hp1, va1, vb1, vt1, tv1, rfl, ha1, hb1', ht1, hn1, hl1⟩ := hD1_1
  refine (Qm)<|(Qx)<|(Qx)<|(QH 1) fun r2=>?_
  refine e_storeA (i := 1) (Uz 26) rfl rfl (arrv_size _ _) (catOkP (shows_oneC hp1) (shows_oneC ha1) (shows_oneC hb1') (shows_oneC ht1)) rfl cells_sz (.inl rfl) ?_
  refine (Qa)<|Qn<|Qs<|(Qq ⟨[], 4, [], none, none⟩)<|(Qm)<|(Qf 5)<|(QV 5 1)<|(QC ht1) ?_
  refine e_as (show _ = ii (tnK (pkn zn 6)) from rfl) ?_
  refine (Qm) ?_
  refine e_call rfl (Un 6) (picked_fn zm 16 (by decide) (by decide)) rfl rfl ?_
  refine e_callN 2 (fun v => v) rfl rfl (Un 12) seenG (places_fn (tnK (pkn zn 6)) (pkn zm 16) (by omega) (by omega)) (by have := plc_len (tnK (pkn zn 6)) (pkn zm 16); simp only [maxLen]; omega) (by rw [List.length_map, Nat.mul_one]) rfl rfl fun v1_2 oz1_2 ho1_2 => ?_
  refine e_callD [(0, _), (1, _), (2, _)] (by repeat (first | exact bag_nil | exact bag_lab _ | apply bag_skip rfl)) ⟨rfl, rfl, rfl, trivial⟩ rfl rfl rfl (Un 11) (seen_app (seen_sub (fun x hx => List.mem_cons_of_mem _ (List.mem_append_left _ hx))) (seenM 2 rfl ⟨[], trivial⟩)) (hW oz1_2.toList v1_2 (nmK (pkn zn 6)) (ci (psK (pkn zn 6) (pkn zm 16))) hb4 (by have := psK_len (pkn zn 6) (pkn zm 16); simp only [ci, List.length_map]; omega) (by rw [ci_ii, show (ci (psK (pkn zn 6) (pkn zm 16))).length = (psK (pkn zn 6) (pkn zm 16)).length by simp [ci]]; exact ho1_2.shows.mono (fun x hx => List.mem_append_right _ hx)) hwa) (pat_roomI (nmK (pkn zn 6)) (decide ((nmK (pkn zn 6)) = nXF)) (ci (psK (pkn zn 6) (pkn zm 16))) (wq (nmK (pkn zn 6)) (ci (psK (pkn zn 6) (pkn zm 16))) 0) (wq (nmK (pkn zn 6)) (ci (psK (pkn zn 6) (pkn zm 16))) 1) (wt (nmK (pkn zn 6)) (ci (psK (pkn zn 6) (pkn zm 16))))) rfl rfl fun v1_3 nw1_3 hD1_3 => ?_
  simp only [catL]
  obtain ⟨_, rfl, vp2, hp2, va2, vb2, vt2, tv2, rfl, ha2, hb2', ht2, hn2, hl2⟩ := hD1_3
  refine (Qm)<|(Qx)<|(Qx)<|(QH 3) fun r4=>?_
  refine e_storeA (i := 3) (Uz 26) rfl rfl (arrv_size _ _) (catOkP (shows_oneC hp2) (shows_oneC ha2) (shows_oneC hb2') (shows_oneC ht2)) rfl cells_sz (.inl rfl) ?_
  refine (Qa)<|Qn<|Qs<|(Qq ⟨[r1], 1, [], none, none⟩) ?_
  refine e_loadA (i := 3) (Uu 26) rfl (Uz 26) rfl rfl (arrv_size _ _) rfl ⟨[0], rfl, rfl, trivial⟩ ?_
  refine e_freeze 2 [(0, _), (1, _), (3, _)] rfl rfl (by repeat (first | exact bag_nil | exact bag_lab _ | apply bag_skip rfl)) ⟨rfl, rfl, rfl, trivial⟩ rfl rfl ?_
  simp only [catL]
  refine (Qm)<|(Qc)<|(Qar)<|(Qm)<|(Qy)<|(Qm)<|(Qy)<|(Qc)<|(Qar)<|(QT)<|(Qm)<|(Qy)<|(Qf 5)<|(Qy) ?_
  refine e_ldV1 (i := 1) 5 (Uu 24) rfl rfl rfl rfl (by decide) rfl ⟨[0], rfl, rfl, trivial⟩ ?_
  refine (Qy)<|(QC ht1) ?_
  refine e_as (show _ = ii (tnK (pkn zn 6)) from rfl) ?_
  refine (Qy)<|(QE)<|(Qat)<|(QT) ?_
  refine e_storeA (i := 0) (Uz 26) rfl rfl (arrv_size _ _) (catOkP (shows_oneC hp2) (shows_oneC ha2) (shows_oneC hb2') (shows_oneC ht2)) rfl cells_sz (.inr (by simp)) ?_
  refine (Qa)<|Qn<|Qr ?_
  exact ⟨_, _, _, ((([] ++ nw1_1) ++ nw1_3) ++ oz1_2.toList), rfl, .cell (i := 0) rfl rfl (Uu 26) rfl (Uz 26) (arrv_size _ _), .tmp rfl, (pat_two (patI_mono ⟨vp2, hp2, va2, vb2, vt2, tv2, rfl, ha2, hb2', ht2, hn2, hl2⟩ (fun x hx => List.mem_append_left _ (List.mem_append_right _ hx)))), (by repeat (first | exact bag_nil | exact bag_lab _ | apply bag_skip rfl))⟩
end Go.Proofs.YtfldnikepdbgkaaDoor
namespace Go.Proofs.YtfldnikepdbgkaaDoor
open Go Go.RowKit
variable {G : Mem}
set_option maxHeartbeats 16000000 in
theorem hiddenJust_fn (DG : Mem) (zn zm zk zt : Int) (hW : ∀ (G : Mem) (v : Value) (l : List Nat) (ps : List Int), (∀ b ∈ l, b < 256) → ps.length ≤ 1000000 → Shows (DG ++ G) 1 v ps.length (ps.map iv) → (pwith l ps).1 = 0 → Fx Tryd.prog (DG ++ G) [] 11 #[sv l, v] (fun w l1 nw => l1 = [] ∧ ∃ w', w = .tuple #[w', ii 0] ∧ PatIsI l (decide (l = nXF)) ps (wq l ps 0) (wq l ps 1) (wt l ps) w' nw)) : Fn Tryd.prog ((⟨0, (nm6.map sv).toArray, 41⟩ : Blk) :: (DG ++ G)) 3 #[.int .i64 zn, .int .i64 zm, .int .i64 zk, .int .i64 zt] (.bool true) := by
  have hk := pkn_lt zn (m := 6) (by decide)
  have hj := pkn_lt zm (m := 16) (by decide)
  have hF := hid_open hk hj
  obtain ⟨_, ho2, _, _, _⟩ := okK_open hk hj
  have hpo := patternOfI_fn (G := G) DG zn zm hW
  have hps := hF.np4
  have hwa := with_all _ hk _ hj
  obtain ⟨nk, hnk⟩ : ∃ x, x = nmK (pkn zn 6) := ⟨_, rfl⟩
  obtain ⟨pk, hpk⟩ : ∃ x, x = psK (pkn zn 6) (pkn zm 16) := ⟨_, rfl⟩
  rw [← hnk, ← hpk] at hF ho2 hpo
  rw [← hpk] at hps
  obtain ⟨q0, hq0⟩ : ∃ x, x = wq nk (ci pk) 0 := ⟨_, rfl⟩
  obtain ⟨q1, hq1⟩ : ∃ x, x = wq nk (ci pk) 1 := ⟨_, rfl⟩
  obtain ⟨us, hus⟩ : ∃ x, x = wt nk (ci pk) := ⟨_, rfl⟩
  rw [← hq0, ← hq1, ← hus] at hF ho2 hpo
  have hul : us.length = (us.map ci).length := by rw [List.length_map]
  have htwo := hF.two
  have hfive := hF.five
  have hcl : (ci pk).length = pk.length := by simp [ci]
  rw [← hcl] at hps hF
  obtain ⟨⟨_, h5⟩, ⟨h60, h61⟩, h6⟩ := pf_sizes ho2
  obtain ⟨i, hi0⟩ : ∃ x, x = pkn zt us.length := ⟨_, rfl⟩
  have hi : i < (us.map ci).length := by rw [hi0, ← hul]; exact pkn_lt zt (by omega)
  obtain ⟨kq, hkq⟩ : ∃ x, x = pkn zk 64 := ⟨_, rfl⟩
  have hk64 : kq < 64 := hkq ▸ pkn64 zk
  obtain ⟨wn, hwn⟩ : ∃ b, b = wantT (secL kq) (toksTo (us.map ci) (i + 1)) := ⟨_, rfl⟩
  have hpl := Nat.le_trans (prs_len (toksTo (us.map ci) (i + 1))) (tokl_le h6 (i + 1) (by omega))
  have hsl : (sngOf (toksTo (us.map ci) (i + 1))).length ≤ 6 * (i + 1) := by rw [sng_len]; exact Nat.le_trans (cnt_len _) (tokl_le h6 (i + 1) (by omega))
  refine Qf1 Tryd.func3 ?_
  refine Qs<|Qp<|(Qa)<|Qn<|Qs<|QR ⟨[], 4, [], none, none⟩<|(Qm)<|(Qm) ?_
  refine e_callD [] (by repeat (first | exact bag_nil | exact bag_lab _ | apply bag_skip rfl)) trivial rfl rfl rfl (Un 5) seenG hpo (pat_room3 nk (decide (nk = nXF)) pk q0 q1 us (.bool true)) rfl rfl fun v1_1 nw1_1 hD1_1 => ?_
  simp only [catL]
  obtain ⟨_, rfl, vp1, hp1, va1, vb1, vt1, tv1, rfl, ha1, hb1, ht1, hn1, hl1⟩ := hD1_1
  have hp1 : Shows nw1_1 1 vp1 (ci pk).length ((ci pk).map iv) := by rw [hcl]; exact hp1
  have ht1 : Shows nw1_1 1 vt1 tv1.length tv1 := by rw [hn1]; exact ht1
  have hl1 := pat_li3 ha1 hb1 hl1
  refine (Qm)<|(Qx)<|(Qx)<|(QH 0) fun r1=>?_
  refine e_storeA (i := 0) (Uz 26) rfl rfl (arrv_size _ _) (catOkP (shows_oneC hp1) (shows_oneC (hl1.2 0 (by simp))) (shows_oneC (hl1.2 1 (by simp))) (shows_oneC ht1)) rfl cells_sz (.inl rfl) ?_
  refine (Qa)<|Qn<|Qs<|Qs<|Qp<|(Qm)<|(Q0)<|Qn ?_
  refine e_cond rfl ?_ ?_
  · intro hc0
    exact absurd hc0 (by decide)
  · intro hc0
    refine Qk<|Qs<|Qp<|(Qm)<|(Qf 5)<|(QV 5 0)<|(QC ht1) ?_
    refine e_as (congrArg ii hn1) ?_
    refine e_call rfl (Un 6) (picked_fn zt us.length (by omega) (by omega)) rfl rfl ?_
    refine e_as (congrArg ii hi0.symm) ?_
    refine (Qa)<|Qn<|Qs<|QR ⟨[], 4, [], none, none⟩<|(Qm) ?_
    refine e_call rfl (Un 6) (picked_fn zk 64 (by decide) (by decide)) rfl rfl ?_
    refine e_as (congrArg ii hkq.symm) ?_
    refine e_callN 1 (fun v => v) rfl rfl (Un 7) seenG (secrets_fn kq hk64) (by have : (secL kq).length ≤ 6 := secU_len kq 6; simp only [maxLen]; omega) (by rw [List.length_map, Nat.mul_one]) rfl rfl fun vZ ozZ hoZ => ?_
    refine (Qa)<|Qn<|Qs<|Qp<|(QD 0)<|(Qm)<|(Qm) ?_
    refine e_callS rfl rfl (Un 8) (seen_app (seenM 1 rfl ⟨[], trivial⟩) (seen_bag (by repeat (first | exact bag_nil | exact bag_lab _ | apply bag_skip rfl)) rfl)) (hidden_ok (G := (ozZ.toList ++ ([] ++ nw1_1))) nk (decide (nk = nXF)) vp1 va1 vb1 vt1 tv1 (ci pk) (ci q0) (ci q1) (us.map ci) (hp1.mono (fun x hx => by simp [hx])) (ht1.mono (fun x hx => by simp [hx])) (li_mono hl1 (fun x hx => by simp [hx])) ho2 hps vZ (secL kq) (hoZ.shows.mono (fun x hx => List.mem_append_left _ hx)) i hi (secU_len kq 6) (fun z hz => (sec_small hz).1) (hF.fits (secU_len kq 6)) (!(wantT (secL kq) (toksTo (us.map ci) (i + 1)))) (hF.just hi (fun z hz => (sec_small hz).2))) rfl rfl ?_
    refine e_as (congrArg (fun b => Value.tuple #[.bool b, ii 0]) ((Bool.not_not _).trans hwn.symm)) ?_
    refine (Qm)<|(Qx)<|(Qx)<|(Qa)<|(Qa)<|Qn<|Qs<|QR ⟨[], 4, [], none, none⟩<|(QD 0)<|(Qm) ?_
    refine e_callD [(0, _), (1, _)] (by repeat (first | exact bag_nil | exact bag_lab _ | apply bag_skip rfl)) ⟨rfl, rfl, trivial⟩ rfl rfl rfl (Un 9) (seen_bag (by repeat (first | exact bag_nil | exact bag_lab _ | apply bag_skip rfl)) rfl) (mixed_fn (G := ([] ++ nw1_1)) nk (decide (nk = nXF)) vp1 va1 vb1 vt1 tv1 (ci pk) (ci q0) (ci q1) (us.map ci) (hp1.mono (fun x hx => by simp [hx])) (ht1.mono (fun x hx => by simp [hx])) (li_mono hl1 (fun x hx => by simp [hx])) h5 h6 i hi) (mixD_room 37 3 (toksTo (us.map ci) (i + 1))) rfl rfl fun v2_3 nw2_3 hD2_3 => ?_
    simp only [catL]
    obtain ⟨m1, m2, rfl, hm1, hm2⟩ := hD2_3
    refine (Qm)<|(Qx)<|(Qx)<|(Qa)<|(Qa)<|Qn<|Qs<|Qp<|(Qa)<|Qn<|Qs<|Qs<|Qp<|(Qm)<|(QC (show Shows (([] ++ nw1_1) ++ nw2_3) _ _ _ _ from hm1.mono (fun x hx => by simp [hx])))<|(Qm)<|Qn<|Qb ?_
    refine e_loopB [(8, _), (9, _), (12, _), (13, _), (14, _), (16, _), (53, _), (54, _)] [(0, _), (1, ozZ)] (fun kk E m fz9 => ∃ (x : Nat) (y : Bool), kk = (prsOf (toksTo (us.map ci) (i + 1))).length - x ∧ E = [(17, .bool y), (55, ii x)] ∧ m = [] ∧ fz9 = (([] ++ nw1_1) ++ nw2_3) ∧ (x ≤ (prsOf (toksTo (us.map ci) (i + 1))).length) ∧ (y = ((prsOf (toksTo (us.map ci) (i + 1))).take x).any (noP (secL kq)))) (k := (prsOf (toksTo (us.map ci) (i + 1))).length - 0) (E0 := [(17, .bool false), (55, ii 0)]) (M0 := []) (fz := (([] ++ nw1_1) ++ nw2_3)) ⟨0, false, rfl, rfl, rfl, rfl, by omega, rfl⟩ ⟨rfl, rfl, rfl, rfl, rfl, rfl, rfl, rfl, rfl, rfl, trivial⟩ ⟨rfl, rfl, trivial⟩ (by repeat (first | exact bag_nil | exact bag_lab _ | apply bag_skip rfl)) ?_
    rintro kk E m fz9 ⟨x, y, rfl, rfl, rfl, hfz9, hf0_0, hf0_1⟩
    rw [hfz9]
    clear hfz9
    simp only [catE, catL]
    refine Qs<|Qp<|(Ql)<|Qn<|Qs ?_
    refine e_cond rfl ?_ ?_
    · intro hc1
      have hc1 : x < (prsOf (toksTo (us.map ci) (i + 1))).length := by have := of_decide_eq_true hc1; omega
      refine Qk<|Qs<|Qb<|Qs<|Qp ?_
      refine e_atV (show Shows (([] ++ nw1_1) ++ nw2_3) _ _ _ _ from hm1.mono (fun x hx => by simp [hx])) (Uu 34) (Uz 37) rfl rfl (by omega) rfl ?_
      refine e_loadVS (show Shows (([] ++ nw1_1) ++ nw2_3) _ _ _ _ from hm1.mono (fun x hx => by simp [hx])) (seen_bag (by repeat (first | exact bag_nil | exact bag_lab _ | apply bag_skip rfl)) rfl) (Uu 37) rfl (Uz 37) rfl (by decide) (by have := hm1.len; omega) (prC_at (by omega)) rfl ?_
      refine e_as (show _ = Value.agg (arr .i64 2 (prF (prsOf (toksTo (us.map ci) (i + 1)))[x].1 (prsOf (toksTo (us.map ci) (i + 1)))[x].2)) from rfl) ?_
      refine (QH 2) fun r3=>(Qt 2)<|Qn<|Qp ?_
      refine e_join [(8, _), (9, _), (12, _), (13, _), (14, _), (16, _), (19, _), (53, _), (54, _), (55, _), (56, _), (57, _), (58, _)] [(17, .bool (y || noP (secL kq) (prsOf (toksTo (us.map ci) (i + 1)))[x]))] (catL [(0, some _), (1, ozZ), (2, some _)] (lab 1000 (([] ++ nw1_1) ++ nw2_3))) ⟨rfl, rfl, rfl, rfl, rfl, rfl, rfl, rfl, rfl, rfl, rfl, rfl, rfl, trivial⟩ (subL_cat ⟨rfl, rfl, rfl, trivial⟩ (bag_sub (by repeat (first | exact bag_nil | exact bag_lab _ | apply bag_skip rfl)))) ?_ ?_
      · skip
        refine (Qm)<|(Qm) ?_
        refine e_case (fun hb0 => ?_) (fun hb0 => ?_)
        · skip
          refine (Qo)<|(Qo)<|(Qo)<|(Qo)<|(Qo)<|(Qo)<|(Qw)<|(Qw)<|(Qw)<|(Qw)<|(Qw)<|(Qo)<|(QT)<|(Qa)<|Qn ?_
          exact ⟨⟨rfl, rfl, rfl, rfl, rfl, rfl, rfl, rfl, rfl, rfl, rfl, rfl, rfl, trivial⟩, ⟨bool_fin (by first | rw [noP, hb0] <;> rfl | rw [noS, hb0] <;> rfl | rw [hb0] <;> rfl), trivial⟩, (subL_cat ⟨rfl, rfl, rfl, trivial⟩ (bag_sub (by repeat (first | exact bag_nil | exact bag_lab _ | apply bag_skip rfl))))⟩
        · skip
          refine (Qy)<|(Qm)<|(Qy)<|(Qj 0)<|(Qy)<|(Q1 2) ?_
          refine e_as (show _ = ii (prsOf (toksTo (us.map ci) (i + 1)))[x].1 from rfl) ?_
          refine (Qy) ?_
          refine e_callS rfl rfl (Un 10) (seenM 1 rfl ⟨[], trivial⟩) (holds_fn (G := ozZ.toList) _ (secL kq) hoZ.shows ((prsOf (toksTo (us.map ci) (i + 1)))[x].1 : Int) (by have : (secL kq).length ≤ 6 := secU_len kq 6; omega)) rfl rfl ?_
          refine (Qy)<|(Q0)<|(Qy)<|(Qm) ?_
          refine e_case (fun hb1 => ?_) (fun hb1 => ?_)
          · skip
            refine (Qy)<|(Qm)<|(Qy)<|(Qj 1)<|(Qy)<|(Q1 2) ?_
            refine e_as (show _ = ii (prsOf (toksTo (us.map ci) (i + 1)))[x].2 from rfl) ?_
            refine (Qy) ?_
            refine e_callS rfl rfl (Un 10) (seenM 1 rfl ⟨[], trivial⟩) (holds_fn (G := ozZ.toList) _ (secL kq) hoZ.shows ((prsOf (toksTo (us.map ci) (i + 1)))[x].2 : Int) (by have : (secL kq).length ≤ 6 := secU_len kq 6; omega)) rfl rfl ?_
            refine (Qy)<|(Q0)<|(Qy)<|(QT)<|(QF)<|(Qa)<|Qn ?_
            exact ⟨⟨rfl, rfl, rfl, rfl, rfl, rfl, rfl, rfl, rfl, rfl, rfl, rfl, rfl, trivial⟩, ⟨bool_fin (by first | rw [noP, hb0, hb1] <;> rfl | rw [noS, hb0, hb1] <;> rfl | rw [hb0, hb1] <;> rfl), trivial⟩, (subL_cat ⟨rfl, rfl, rfl, trivial⟩ (bag_sub (by repeat (first | exact bag_nil | exact bag_lab _ | apply bag_skip rfl))))⟩
          · skip
            refine (Qo)<|(Qo)<|(Qo)<|(Qo)<|(Qo)<|(Qy)<|(QF)<|(QF)<|(Qa)<|Qn ?_
            exact ⟨⟨rfl, rfl, rfl, rfl, rfl, rfl, rfl, rfl, rfl, rfl, rfl, rfl, rfl, trivial⟩, ⟨bool_fin (by first | rw [noP, hb0, hb1] <;> rfl | rw [noS, hb0, hb1] <;> rfl | rw [hb0, hb1] <;> rfl), trivial⟩, (subL_cat ⟨rfl, rfl, rfl, trivial⟩ (bag_sub (by repeat (first | exact bag_nil | exact bag_lab _ | apply bag_skip rfl))))⟩
      · simp only [catE, catL]
        refine Qp<|(Q2 1)<|(Qm)<|Qn ?_
        refine e_round (E'' := [(17, .bool _), (55, ii (x + 1))]) (M'' := []) (fz' := (([] ++ nw1_1) ++ nw2_3)) ⟨x + 1, _, rfl, rfl, rfl, rfl, by omega, (by rw [any_next (by omega), ← hf0_1])⟩ ⟨rfl, rfl, rfl, rfl, rfl, rfl, rfl, rfl, rfl, rfl, trivial⟩ ⟨rfl, rfl, trivial⟩ (by repeat (first | exact bag_nil | exact bag_lab _ | apply bag_skip rfl)) (by omega)
    · intro hc1
      have hc1 := of_decide_eq_false hc1
      have hz0 : x = (prsOf (toksTo (us.map ci) (i + 1))).length := by omega
      refine Qe<|Qs<|Qs<|Qp<|(Qm)<|(QC (show Shows (([] ++ nw1_1) ++ nw2_3) _ _ _ _ from hm2.mono (fun x hx => by simp [hx])))<|(Qm)<|Qn<|Qb ?_
      refine e_loopB [(8, _), (9, _), (12, _), (13, _), (14, _), (16, _), (53, _), (54, _), (55, _), (75, _), (76, _)] [(0, _), (1, ozZ)] (fun kk E m fz9 => ∃ (x : Nat) (y2 : Bool), kk = (sngOf (toksTo (us.map ci) (i + 1))).length - x ∧ E = [(17, .bool y2), (77, ii x)] ∧ m = [] ∧ fz9 = (([] ++ nw1_1) ++ nw2_3) ∧ (x ≤ (sngOf (toksTo (us.map ci) (i + 1))).length) ∧ (y2 = (y || ((sngOf (toksTo (us.map ci) (i + 1))).take x).any (noS (secL kq))))) (k := (sngOf (toksTo (us.map ci) (i + 1))).length - 0) (E0 := [(17, .bool y), (77, ii 0)]) (M0 := []) (fz := (([] ++ nw1_1) ++ nw2_3)) ⟨0, y, rfl, rfl, rfl, rfl, by omega, (by simp)⟩ ⟨rfl, rfl, rfl, rfl, rfl, rfl, rfl, rfl, rfl, rfl, rfl, rfl, rfl, trivial⟩ ⟨rfl, rfl, trivial⟩ (by repeat (first | exact bag_nil | exact bag_lab _ | apply bag_skip rfl)) ?_
      rintro kk E m fz9 ⟨x, y2, rfl, rfl, rfl, hfz9, hf1_0, hf1_1⟩
      rw [hfz9]
      clear hfz9
      simp only [catE, catL]
      refine Qs<|Qp<|(Ql)<|Qn<|Qs ?_
      refine e_cond rfl ?_ ?_
      · intro hc2
        have hc2 : x < (sngOf (toksTo (us.map ci) (i + 1))).length := by have := of_decide_eq_true hc2; omega
        refine Qk<|Qs<|Qb<|Qs<|Qp ?_
        refine e_atV (show Shows (([] ++ nw1_1) ++ nw2_3) _ _ _ _ from hm2.mono (fun x hx => by simp [hx])) (Uu 22) (Uz 3) rfl rfl (by omega) rfl ?_
        refine (QS) ?_
        refine e_loadV (show Shows (([] ++ nw1_1) ++ nw2_3) _ _ _ _ from hm2.mono (fun x hx => by simp [hx])) (seen_bag (by repeat (first | exact bag_nil | exact bag_lab _ | apply bag_skip rfl)) rfl) (Uu 3) rfl rfl (sgC_at (by omega)) rfl ?_
        refine (Qa)<|Qn<|Qp ?_
        refine e_join [(8, _), (9, _), (12, _), (13, _), (14, _), (16, _), (21, _), (53, _), (54, _), (55, _), (75, _), (76, _), (77, _), (78, _), (79, _), (80, _)] [(17, .bool (y2 || noS (secL kq) (sngOf (toksTo (us.map ci) (i + 1)))[x]))] (catL [(0, some _), (1, ozZ)] (lab 1000 (([] ++ nw1_1) ++ nw2_3))) ⟨rfl, rfl, rfl, rfl, rfl, rfl, rfl, rfl, rfl, rfl, rfl, rfl, rfl, rfl, rfl, rfl, trivial⟩ (subL_cat ⟨rfl, rfl, trivial⟩ (bag_sub (by repeat (first | exact bag_nil | exact bag_lab _ | apply bag_skip rfl)))) ?_ ?_
        · skip
          refine (Qm)<|(Qm) ?_
          refine e_case (fun hb2 => ?_) (fun hb2 => ?_)
          · skip
            refine (Qo)<|(Qo)<|(Qo)<|(Qo)<|(QT)<|(Qa)<|Qn ?_
            exact ⟨⟨rfl, rfl, rfl, rfl, rfl, rfl, rfl, rfl, rfl, rfl, rfl, rfl, rfl, rfl, rfl, rfl, trivial⟩, ⟨bool_fin (by first | rw [noP, hb2] <;> rfl | rw [noS, hb2] <;> rfl | rw [hb2] <;> rfl), trivial⟩, (subL_cat ⟨rfl, rfl, trivial⟩ (bag_sub (by repeat (first | exact bag_nil | exact bag_lab _ | apply bag_skip rfl))))⟩
          · skip
            refine (Qy)<|(Qm)<|(Qy)<|(Qm)<|(Qy) ?_
            refine e_callS rfl rfl (Un 10) (seenM 1 rfl ⟨[], trivial⟩) (holds_fn (G := ozZ.toList) _ (secL kq) hoZ.shows ((sngOf (toksTo (us.map ci) (i + 1)))[x] : Int) (by have : (secL kq).length ≤ 6 := secU_len kq 6; omega)) rfl rfl ?_
            refine (Qy)<|(Q0)<|(QF)<|(Qa)<|Qn ?_
            exact ⟨⟨rfl, rfl, rfl, rfl, rfl, rfl, rfl, rfl, rfl, rfl, rfl, rfl, rfl, rfl, rfl, rfl, trivial⟩, ⟨bool_fin (by first | rw [noP, hb2] <;> rfl | rw [noS, hb2] <;> rfl | rw [hb2] <;> rfl), trivial⟩, (subL_cat ⟨rfl, rfl, trivial⟩ (bag_sub (by repeat (first | exact bag_nil | exact bag_lab _ | apply bag_skip rfl))))⟩
        · simp only [catE, catL]
          refine Qp<|(Q2 1)<|(Qm)<|Qn ?_
          refine e_round (E'' := [(17, .bool _), (77, ii (x + 1))]) (M'' := []) (fz' := (([] ++ nw1_1) ++ nw2_3)) ⟨x + 1, _, rfl, rfl, rfl, rfl, by omega, (by rw [any_next (by omega), ← Bool.or_assoc, ← hf1_1])⟩ ⟨rfl, rfl, rfl, rfl, rfl, rfl, rfl, rfl, rfl, rfl, rfl, rfl, rfl, trivial⟩ ⟨rfl, rfl, trivial⟩ (by repeat (first | exact bag_nil | exact bag_lab _ | apply bag_skip rfl)) (by omega)
      · intro hc2
        have hc2 := of_decide_eq_false hc2
        have hz1 : x = (sngOf (toksTo (us.map ci) (i + 1))).length := by omega
        refine Qe<|Qs<|Qp<|(QD 0)<|(Qf 5)<|(QV 5 0)<|(QC ht1) ?_
        refine e_as (congrArg ii hn1) ?_
        refine e_callS rfl rfl (Un 8) (seen_bag (by repeat (first | exact bag_nil | exact bag_lab _ | apply bag_skip rfl)) rfl) (hidden_range (G := (([] ++ nw1_1) ++ nw2_3)) nk (decide (nk = nXF)) vp1 va1 vb1 vt1 tv1 (ci pk) (ci q0) (ci q1) (us.map ci) (hp1.mono (fun x hx => by simp [hx])) (ht1.mono (fun x hx => by simp [hx])) (li_mono hl1 (fun x hx => by simp [hx])) ho2 hps nilS (us.length : Int) (.inr (by rw [← hul]; exact Int.le_refl _))) rfl rfl ?_
        refine (Qm)<|(Qx)<|(Qx)<|(Qa)<|(Qa)<|Qn<|Qs<|Qp<|(Qm)<|(Qc)<|(Qar)<|(Qm)<|(Qy)<|(Qm)<|(Qy)<|(Qc)<|(Qar)<|(QT)<|(Qm)<|(Qy)<|(Qm)<|(Qy)<|(Qm)<|(Qy) ?_
        refine e_eqB (Uu 4) rfl rfl rfl ?_
        refine e_as (congrArg Value.bool (just_end hwn hz0 hz1 hf0_1 hf1_1)) ?_
        refine (QT)<|(Qa)<|Qn<|Qr ?_
        exact ⟨_, rfl, .tmp rfl⟩
end Go.Proofs.YtfldnikepdbgkaaDoor
namespace Go.Proofs.YtfldnikepdbgkaaDoor
open Go Go.RowKit
variable {G : Mem}
set_option maxHeartbeats 16000000 in
theorem hiddenLater_fn (DG : Mem) (zn zm zk zj zt : Int) (hW : ∀ (G : Mem) (v : Value) (l : List Nat) (ps : List Int), (∀ b ∈ l, b < 256) → ps.length ≤ 1000000 → Shows (DG ++ G) 1 v ps.length (ps.map iv) → (pwith l ps).1 = 0 → Fx Tryd.prog (DG ++ G) [] 11 #[sv l, v] (fun w l1 nw => l1 = [] ∧ ∃ w', w = .tuple #[w', ii 0] ∧ PatIsI l (decide (l = nXF)) ps (wq l ps 0) (wq l ps 1) (wt l ps) w' nw)) : Fn Tryd.prog ((⟨0, (nm6.map sv).toArray, 41⟩ : Blk) :: (DG ++ G)) 4 #[.int .i64 zn, .int .i64 zm, .int .i64 zk, .int .i64 zj, .int .i64 zt] (.bool true) := by
  have hk := pkn_lt zn (m := 6) (by decide)
  have hj := pkn_lt zm (m := 16) (by decide)
  have hF := hid_open hk hj
  obtain ⟨_, ho2, _, _, _⟩ := okK_open hk hj
  have hpo := patternOfI_fn (G := G) DG zn zm hW
  have hps := hF.np4
  have hwa := with_all _ hk _ hj
  obtain ⟨nk, hnk⟩ : ∃ x, x = nmK (pkn zn 6) := ⟨_, rfl⟩
  obtain ⟨pk, hpk⟩ : ∃ x, x = psK (pkn zn 6) (pkn zm 16) := ⟨_, rfl⟩
  rw [← hnk, ← hpk] at hF ho2 hpo
  rw [← hpk] at hps
  obtain ⟨q0, hq0⟩ : ∃ x, x = wq nk (ci pk) 0 := ⟨_, rfl⟩
  obtain ⟨q1, hq1⟩ : ∃ x, x = wq nk (ci pk) 1 := ⟨_, rfl⟩
  obtain ⟨us, hus⟩ : ∃ x, x = wt nk (ci pk) := ⟨_, rfl⟩
  rw [← hq0, ← hq1, ← hus] at hF ho2 hpo
  have hul : us.length = (us.map ci).length := by rw [List.length_map]
  have htwo := hF.two
  have hfive := hF.five
  have hcl : (ci pk).length = pk.length := by simp [ci]
  rw [← hcl] at hps hF
  obtain ⟨⟨_, h5⟩, ⟨h60, h61⟩, h6⟩ := pf_sizes ho2
  obtain ⟨i, hi0⟩ : ∃ x, x = pkn zt us.length := ⟨_, rfl⟩
  have hi : i < (us.map ci).length := by rw [hi0, ← hul]; exact pkn_lt zt (by omega)
  obtain ⟨kq, hkq⟩ : ∃ x, x = pkn zk 64 := ⟨_, rfl⟩
  have hk64 : kq < 64 := hkq ▸ pkn64 zk
  obtain ⟨kj, hkj⟩ : ∃ x, x = pkn zj 64 := ⟨_, rfl⟩
  have hj64 : kj < 64 := hkj ▸ pkn64 zj
  have ho64 : kq ||| kj < 64 := Nat.or_lt_two_pow (n := 6) hk64 hj64
  obtain ⟨la, hla⟩ : ∃ b, b = wantT [1, 2] (toksTo (us.map ci) (i + 1)) := ⟨_, rfl⟩
  obtain ⟨le, hle⟩ : ∃ b, b = wantT (secL kq) (toksTo (us.map ci) (i + 1)) := ⟨_, rfl⟩
  obtain ⟨al, hal⟩ : ∃ b, b = wantT (secL (kq ||| kj)) (toksTo (us.map ci) (i + 1)) := ⟨_, rfl⟩
  have hpl := Nat.le_trans (prs_len (toksTo (us.map ci) (i + 1))) (tokl_le h6 (i + 1) (by omega))
  have hB := want_mono hF (fun z hz => sec_more hk64 hj64 hz) (i + 1) hal hle
  refine Qf1 Tryd.func4 ?_
  refine Qs<|Qp<|(Qa)<|Qn<|Qs<|QR ⟨[], 4, [], none, none⟩<|(Qm)<|(Qm) ?_
  refine e_callD [] (by repeat (first | exact bag_nil | exact bag_lab _ | apply bag_skip rfl)) trivial rfl rfl rfl (Un 5) seenG hpo (pat_room3 nk (decide (nk = nXF)) pk q0 q1 us (.bool true)) rfl rfl fun v1_1 nw1_1 hD1_1 => ?_
  simp only [catL]
  obtain ⟨_, rfl, vp1, hp1, va1, vb1, vt1, tv1, rfl, ha1, hb1, ht1, hn1, hl1⟩ := hD1_1
  have hp1 : Shows nw1_1 1 vp1 (ci pk).length ((ci pk).map iv) := by rw [hcl]; exact hp1
  have ht1 : Shows nw1_1 1 vt1 tv1.length tv1 := by rw [hn1]; exact ht1
  have hl1 := pat_li3 ha1 hb1 hl1
  refine (Qm)<|(Qx)<|(Qx)<|(QH 0) fun r1=>?_
  refine e_storeA (i := 0) (Uz 26) rfl rfl (arrv_size _ _) (catOkP (shows_oneC hp1) (shows_oneC (hl1.2 0 (by simp))) (shows_oneC (hl1.2 1 (by simp))) (shows_oneC ht1)) rfl cells_sz (.inl rfl) ?_
  refine (Qa)<|Qn<|Qs<|Qs<|Qp<|(Qm)<|(Q0)<|Qn ?_
  refine e_cond rfl ?_ ?_
  · intro hc0
    exact absurd hc0 (by decide)
  · intro hc0
    refine Qk<|Qs<|Qp<|(Qm)<|(Qf 5)<|(QV 5 0)<|(QC ht1) ?_
    refine e_as (congrArg ii hn1) ?_
    refine e_call rfl (Un 6) (picked_fn zt us.length (by omega) (by omega)) rfl rfl ?_
    refine e_as (congrArg ii hi0.symm) ?_
    refine (Qa)<|Qn<|Qs<|Qp<|(QD 0) ?_
    refine e_buildSl 1 [ii 1, ii 2].toArray (Uu 22 rfl) (Uz 3 rfl) (Ub 3 rfl) (by decide) (by decide) rfl (by kernel_rfl) rfl fun r2 => ?_
    refine (Qm) ?_
    refine e_callS rfl rfl (Un 8) (seen_app (A := [_]) (seen1 1 rfl ⟨[], trivial⟩) (seen_bag (by repeat (first | exact bag_nil | exact bag_lab _ | apply bag_skip rfl)) rfl)) (hidden_ok (G := ((⟨r2, [ii 1, ii 2].toArray, 3⟩ : Blk) :: ([] ++ nw1_1))) nk (decide (nk = nXF)) vp1 va1 vb1 vt1 tv1 (ci pk) (ci q0) (ci q1) (us.map ci) (hp1.mono (fun x hx => by simp [hx])) (ht1.mono (fun x hx => by simp [hx])) (li_mono hl1 (fun x hx => by simp [hx])) ho2 hps (.slice (some ⟨r2, 0, none⟩) 2 2) [1, 2] ((shows_new (z := 1) (len := 2) [ii 1, ii 2].toArray 3 rfl).mono (fun x hx => by rw [List.mem_singleton.1 hx]; exact List.mem_cons_self ..)) i hi (by decide) (by decide) (hF.fits (by decide)) (!(wantT [1, 2] (toksTo (us.map ci) (i + 1)))) (hF.just hi (by decide))) rfl rfl ?_
    refine e_as (congrArg (fun b => Value.tuple #[.bool b, ii 0]) ((Bool.not_not _).trans hla.symm)) ?_
    refine (Qm)<|(Qx)<|(Qx)<|(Qa)<|(Qa)<|Qn<|Qs<|QR ⟨[], 4, [], none, none⟩<|(QD 0)<|(Qm) ?_
    refine e_callD [(0, _), (1, _)] (by repeat (first | exact bag_nil | exact bag_lab _ | apply bag_skip rfl)) ⟨rfl, rfl, trivial⟩ rfl rfl rfl (Un 9) (seen_bag (by repeat (first | exact bag_nil | exact bag_lab _ | apply bag_skip rfl)) rfl) (mixed_fn (G := ([] ++ nw1_1)) nk (decide (nk = nXF)) vp1 va1 vb1 vt1 tv1 (ci pk) (ci q0) (ci q1) (us.map ci) (hp1.mono (fun x hx => by simp [hx])) (ht1.mono (fun x hx => by simp [hx])) (li_mono hl1 (fun x hx => by simp [hx])) h5 h6 i hi) (mixD_room 37 3 (toksTo (us.map ci) (i + 1))) rfl rfl fun v2_2 nw2_2 hD2_2 => ?_
    simp only [catL]
    obtain ⟨m1, m2, rfl, hm1, hm2⟩ := hD2_2
    refine (Qm)<|(Qx)<|(Qx)<|(Qa)<|(Qa)<|Qn<|Qs<|Qp<|(Qa)<|Qn<|Qs<|Qs<|Qp<|(Qm)<|(QC (show Shows (([] ++ nw1_1) ++ nw2_2) _ _ _ _ from hm1.mono (fun x hx => by simp [hx])))<|(Qm)<|Qn<|Qb ?_
    refine e_loopB [(2, _), (3, _), (10, _), (11, _), (13, _), (14, _), (15, _), (52, _), (53, _)] [(0, _), (1, _)] (fun kk E m fz9 => ∃ (x : Nat) (y : Bool), kk = (prsOf (toksTo (us.map ci) (i + 1))).length - x ∧ E = [(18, .bool y), (54, ii x)] ∧ m = [] ∧ fz9 = (([] ++ nw1_1) ++ nw2_2) ∧ (x ≤ (prsOf (toksTo (us.map ci) (i + 1))).length) ∧ (y = ((prsOf (toksTo (us.map ci) (i + 1))).take x).any (fun p => allEq 2 (prF p.1 p.2) (prF 3 4)))) (k := (prsOf (toksTo (us.map ci) (i + 1))).length - 0) (E0 := [(18, .bool false), (54, ii 0)]) (M0 := []) (fz := (([] ++ nw1_1) ++ nw2_2)) ⟨0, false, rfl, rfl, rfl, rfl, by omega, rfl⟩ ⟨rfl, rfl, rfl, rfl, rfl, rfl, rfl, rfl, rfl, rfl, rfl, trivial⟩ ⟨rfl, rfl, trivial⟩ (by repeat (first | exact bag_nil | exact bag_lab _ | apply bag_skip rfl)) ?_
    rintro kk E m fz9 ⟨x, y, rfl, rfl, rfl, hfz9, hf0_0, hf0_1⟩
    rw [hfz9]
    clear hfz9
    simp only [catE, catL]
    refine Qs<|Qp<|(Ql)<|Qn<|Qs ?_
    refine e_cond rfl ?_ ?_
    · intro hc1
      have hc1 : x < (prsOf (toksTo (us.map ci) (i + 1))).length := by have := of_decide_eq_true hc1; omega
      refine Qk<|Qs<|Qb<|Qs<|Qp ?_
      refine e_atV (show Shows (([] ++ nw1_1) ++ nw2_2) _ _ _ _ from hm1.mono (fun x hx => by simp [hx])) (Uu 34) (Uz 37) rfl rfl (by omega) rfl ?_
      refine e_loadVS (show Shows (([] ++ nw1_1) ++ nw2_2) _ _ _ _ from hm1.mono (fun x hx => by simp [hx])) (seen_bag (by repeat (first | exact bag_nil | exact bag_lab _ | apply bag_skip rfl)) rfl) (Uu 37) rfl (Uz 37) rfl (by decide) (by have := hm1.len; omega) (prC_at (by omega)) rfl ?_
      refine e_as (show _ = Value.agg (arr .i64 2 (prF (prsOf (toksTo (us.map ci) (i + 1)))[x].1 (prsOf (toksTo (us.map ci) (i + 1)))[x].2)) from rfl) ?_
      refine (QH 2) fun r3=>(Qt 2)<|Qn<|Qp ?_
      refine e_join [(2, _), (3, _), (10, _), (11, _), (13, _), (14, _), (15, _), (20, _), (52, _), (53, _), (54, _), (55, _), (56, _), (57, _)] [(18, .bool (y || allEq 2 (prF (prsOf (toksTo (us.map ci) (i + 1)))[x].1 (prsOf (toksTo (us.map ci) (i + 1)))[x].2) (prF 3 4)))] (catL [(0, some _), (1, some _), (2, some _)] (lab 1000 (([] ++ nw1_1) ++ nw2_2))) ⟨rfl, rfl, rfl, rfl, rfl, rfl, rfl, rfl, rfl, rfl, rfl, rfl, rfl, rfl, trivial⟩ (subL_cat ⟨rfl, rfl, rfl, trivial⟩ (bag_sub (by repeat (first | exact bag_nil | exact bag_lab _ | apply bag_skip rfl)))) ?_ ?_
      · skip
        refine (Qm)<|(Qm) ?_
        refine e_case (fun hb0 => ?_) (fun hb0 => ?_)
        · skip
          refine (Qo)<|(Qo)<|(Qo)<|(QT)<|(Qa)<|Qn ?_
          exact ⟨⟨rfl, rfl, rfl, rfl, rfl, rfl, rfl, rfl, rfl, rfl, rfl, rfl, rfl, rfl, trivial⟩, ⟨bool_fin (by rw [hb0] <;> rfl), trivial⟩, (subL_cat ⟨rfl, rfl, rfl, trivial⟩ (bag_sub (by repeat (first | exact bag_nil | exact bag_lab _ | apply bag_skip rfl))))⟩
        · skip
          refine (Qy)<|(Qd 2)<|(Qy) ?_
          refine e_build (arr .i64 2 (prF 3 4)) (Ub 37 rfl) (Uu 37 rfl) (Uz 3 rfl) rfl (by kernel_rfl) rfl ?_
          refine (Qy) ?_
          refine e_eqA (Uu 37) (Uu 3) (Uz 3) eqg37 rfl rfl rfl ?_
          refine (QF)<|(Qa)<|Qn ?_
          exact ⟨⟨rfl, rfl, rfl, rfl, rfl, rfl, rfl, rfl, rfl, rfl, rfl, rfl, rfl, rfl, trivial⟩, ⟨bool_fin (by rw [hb0] <;> rfl), trivial⟩, (subL_cat ⟨rfl, rfl, rfl, trivial⟩ (bag_sub (by repeat (first | exact bag_nil | exact bag_lab _ | apply bag_skip rfl))))⟩
      · simp only [catE, catL]
        refine Qp<|(Q2 1)<|(Qm)<|Qn ?_
        refine e_round (E'' := [(18, .bool _), (54, ii (x + 1))]) (M'' := []) (fz' := (([] ++ nw1_1) ++ nw2_2)) ⟨x + 1, _, rfl, rfl, rfl, rfl, by omega, (by rw [any_next (by omega), ← hf0_1])⟩ ⟨rfl, rfl, rfl, rfl, rfl, rfl, rfl, rfl, rfl, rfl, rfl, trivial⟩ ⟨rfl, rfl, trivial⟩ (by repeat (first | exact bag_nil | exact bag_lab _ | apply bag_skip rfl)) (by omega)
    · intro hc1
      have hc1 := of_decide_eq_false hc1
      have hz0 : x = (prsOf (toksTo (us.map ci) (i + 1))).length := by omega
      have hA := ee_hides (y := y) (by rw [hf0_1, hz0, List.take_length]) hla
      refine Qe<|Qs<|Qp<|(Qm) ?_
      refine e_call rfl (Un 6) (picked_fn zk 64 (by decide) (by decide)) rfl rfl ?_
      refine e_as (congrArg ii hkq.symm) ?_
      refine (Qa)<|Qn<|Qs ?_
      refine e_order ⟨[], 4, [], none, none⟩ [0, 1, 3, 2, 4, 5, 6, 7, 8, 9] mixed (by kernel_rfl) ?_
      refine (QD 0)<|(Qm)<|(Qm) ?_
      refine e_callN 2 (fun v => v) rfl rfl (Un 7) seenG (secrets_fn kq hk64) (by have : (secL kq).length ≤ 6 := secU_len kq 6; simp only [maxLen]; omega) (by rw [List.length_map, Nat.mul_one]) rfl rfl fun vY ozY hoY => ?_
      refine e_callS rfl rfl (Un 8) (seen_app (seenM 2 rfl ⟨[], trivial⟩) (seen_bag (by repeat (first | exact bag_nil | exact bag_lab _ | apply bag_skip rfl)) rfl)) (hidden_ok (G := (ozY.toList ++ (([] ++ nw1_1) ++ nw2_2))) nk (decide (nk = nXF)) vp1 va1 vb1 vt1 tv1 (ci pk) (ci q0) (ci q1) (us.map ci) (hp1.mono (fun x hx => by simp [hx])) (ht1.mono (fun x hx => by simp [hx])) (li_mono hl1 (fun x hx => by simp [hx])) ho2 hps vY (secL kq) (hoY.shows.mono (fun x hx => List.mem_append_left _ hx)) i hi (secU_len kq 6) (fun z hz => (sec_small hz).1) (hF.fits (secU_len kq 6)) (!(wantT (secL kq) (toksTo (us.map ci) (i + 1)))) (hF.just hi (fun z hz => (sec_small hz).2))) rfl rfl ?_
      refine e_as (congrArg (fun b => Value.tuple #[.bool b, ii 0]) ((Bool.not_not _).trans hle.symm)) ?_
      refine (Qm)<|(Qx)<|(Qx)<|(Qa)<|(Qa)<|Qn<|Qs<|(Qq ⟨[], 4, [], none, none⟩)<|(QD 0)<|(Qm)<|(Qm) ?_
      refine e_call rfl (Un 6) (picked_fn zj 64 (by decide) (by decide)) rfl rfl ?_
      refine e_as (congrArg ii hkj.symm) ?_
      refine e_or64 hk64 hj64 rfl rfl rfl ?_
      refine e_callN 3 (fun v => v) rfl rfl (Un 7) seenG (secrets_fn (kq ||| kj) ho64) (by have : (secL (kq ||| kj)).length ≤ 6 := secU_len (kq ||| kj) 6; simp only [maxLen]; omega) (by rw [List.length_map, Nat.mul_one]) rfl rfl fun vX ozX hoX => ?_
      refine (Qm) ?_
      refine e_callS rfl rfl (Un 8) (seen_app (seenM 3 rfl ⟨[], trivial⟩) (seen_bag (by repeat (first | exact bag_nil | exact bag_lab _ | apply bag_skip rfl)) rfl)) (hidden_ok (G := (ozX.toList ++ (([] ++ nw1_1) ++ nw2_2))) nk (decide (nk = nXF)) vp1 va1 vb1 vt1 tv1 (ci pk) (ci q0) (ci q1) (us.map ci) (hp1.mono (fun x hx => by simp [hx])) (ht1.mono (fun x hx => by simp [hx])) (li_mono hl1 (fun x hx => by simp [hx])) ho2 hps vX (secL (kq ||| kj)) (hoX.shows.mono (fun x hx => List.mem_append_left _ hx)) i hi (secU_len (kq ||| kj) 6) (fun z hz => (sec_small hz).1) (hF.fits (secU_len (kq ||| kj) 6)) (!(wantT (secL (kq ||| kj)) (toksTo (us.map ci) (i + 1)))) (hF.just hi (fun z hz => (sec_small hz).2))) rfl rfl ?_
      refine e_as (congrArg (fun b => Value.tuple #[.bool b, ii 0]) ((Bool.not_not _).trans hal.symm)) ?_
      refine (Qm)<|(Qx)<|(Qx)<|(Qa)<|(Qa)<|Qn<|Qs ?_
      rcases hA with rfl | ⟨rfl, rfl⟩ <;> rcases hB with rfl | ⟨rfl, rfl⟩
      · skip
        refine Qp<|(Qm)<|(Qc)<|(Qar)<|(Qm)<|(Qy)<|(Qm)<|(Qy)<|(Qc)<|(Qar)<|(QT)<|(Qm)<|(Qy)<|(Qm)<|(Qy)<|(Qc)<|(Qar)<|(QT)<|(Qm)<|(Qy)<|(Qm)<|(Qy)<|(Q0)<|(Qy)<|(Qm)<|(Qo)<|(Qy)<|(QT)<|(QT)<|(Qm)<|(Qy)<|(Qm)<|(Qy)<|(Q0)<|(Qy)<|(Qm)<|(Qo)<|(Qy)<|(QT)<|(QT)<|(Qa)<|Qn<|Qr ?_
        exact ⟨_, rfl, .tmp rfl⟩
      · skip
        refine Qp<|(Qm)<|(Qc)<|(Qar)<|(Qm)<|(Qy)<|(Qm)<|(Qy)<|(Qc)<|(Qar)<|(QT)<|(Qm)<|(Qy)<|(Qm)<|(Qy)<|(Qc)<|(Qar)<|(QT)<|(Qm)<|(Qy)<|(Qm)<|(Qy)<|(Q0)<|(Qy)<|(Qm)<|(Qo)<|(Qy)<|(QT)<|(QT)<|(Qm)<|(Qy)<|(Qm)<|(Qy)<|(Q0)<|(Qy)<|(Qm)<|(Qy)<|(Qm)<|(Qy)<|(QF)<|(QT)<|(Qa)<|Qn<|Qr ?_
        exact ⟨_, rfl, .tmp rfl⟩
      · skip
        refine Qp<|(Qm)<|(Qc)<|(Qar)<|(Qm)<|(Qy)<|(Qm)<|(Qy)<|(Qc)<|(Qar)<|(QT)<|(Qm)<|(Qy)<|(Qm)<|(Qy)<|(Qc)<|(Qar)<|(QT)<|(Qm)<|(Qy)<|(Qm)<|(Qy)<|(Q0)<|(Qy)<|(Qm)<|(Qy)<|(Qm)<|(Qy)<|(QF)<|(QT)<|(Qm)<|(Qy)<|(Qm)<|(Qy)<|(Q0)<|(Qy)<|(Qm)<|(Qo)<|(Qy)<|(QT)<|(QT)<|(Qa)<|Qn<|Qr ?_
        exact ⟨_, rfl, .tmp rfl⟩
      · skip
        refine Qp<|(Qm)<|(Qc)<|(Qar)<|(Qm)<|(Qy)<|(Qm)<|(Qy)<|(Qc)<|(Qar)<|(QT)<|(Qm)<|(Qy)<|(Qm)<|(Qy)<|(Qc)<|(Qar)<|(QT)<|(Qm)<|(Qy)<|(Qm)<|(Qy)<|(Q0)<|(Qy)<|(Qm)<|(Qy)<|(Qm)<|(Qy)<|(QF)<|(QT)<|(Qm)<|(Qy)<|(Qm)<|(Qy)<|(Q0)<|(Qy)<|(Qm)<|(Qy)<|(Qm)<|(Qy)<|(QF)<|(QT)<|(Qa)<|Qn<|Qr ?_
        exact ⟨_, rfl, .tmp rfl⟩
end Go.Proofs.YtfldnikepdbgkaaDoor
