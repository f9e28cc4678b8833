import Derived.Test.YtejejmhbhegneaaDoorKW5
namespace Go.Proofs.YtejejmhbhegneaaDoor
open Go Go.RowKit
variable {G : Mem}
set_option maxHeartbeats 8000000 in
theorem with_ok (l : List Nat) (v : Value) (ps : List Int) (hl0 : ∀ b ∈ l, b < 256) (hv : Shows ((⟨1, arr .u8 256 asp, 77⟩ : Blk) :: G) 1 v ps.length (ps.map iv)) (hp9 : ps.length ≤ 9223372036854775807) (he : (pwith l ps).1 = 0) : Fx Tryd.prog ((⟨1, arr .u8 256 asp, 77⟩ : Blk) :: G) [] 9 #[sv l, v] (fun w l1 nw => l1 = [] ∧ ∃ w', w = .tuple #[w', ii 0] ∧ PatIs l (decide (l = nXF)) v (toks ((pwith l ps).2.getD 0 [])) (toks ((pwith l ps).2.getD 1 [])) (((pwith l ps).2.drop 2).map toks) w' nw) := by
  have hl : ∀ b ∈ l, b < 256 := hl0
  refine fxD2 (n := 95) Tryd.func9 rfl rfl (by simp) (argE [sv l, v] 0) (argE_ok _) ?_
  refine Qs<|Qp<|(QH 0) fun r1=>(Qa)<|Qn<|Qs<|Qp<|(Qm) ?_
  refine e_call rfl (Un 22) (ptext_fn l hl) rfl rfl ?_
  refine (Qa)<|Qn<|Qs<|Qs<|Qp<|(Qm) ?_
  refine e_eqStr (k := []) rfl rfl rfl (fun b hb => by have := ptext_lt l b hb; omega) (by simp) ?_
  refine Qn ?_
  refine e_cond rfl ?_ ?_
  · intro hc0
    have hc0 := of_decide_eq_true hc0
    exact absurd he (by rw [pwith, if_pos hc0]; decide)
  · intro hc0
    have hc0 := of_decide_eq_false hc0
    obtain ⟨hb1, hb2, hb3, hb4, hb5⟩ := pbase_ok hc0
    refine Qk<|Qs<|Qs<|Qp<|(Qm)<|(QC hv)<|(QG)<|Qn ?_
    refine e_cond rfl ?_ ?_
    · intro hc1
      have hc1 := of_decide_eq_true hc1
      exact absurd he (by rw [pwith, if_neg hc0, if_pos (by omega)]; decide)
    · intro hc1
      have hc1 := of_decide_eq_false hc1
      have hpw : pwith l ps = pfold (pbase l) (-1) ps := by rw [pwith, if_neg hc0, if_neg (by omega)]
      refine Qk<|Qs<|QR ⟨[], 4, [], none⟩<|(Qm) ?_
      refine e_call rfl (Un 24) (trim_fn (ptext l) 59 (fun b hb => by have := hb4 b hb; omega) (by decide) (by omega)) rfl rfl ?_
      refine e_callN 1 (fun v => v) rfl rfl (Un 23) seenG (split_fn (trimS (ptext l) 59) 59 (fun b hb => by have := trimS_mem hb; have := hb4 b this; omega) (by decide) (by have := trimS_len (ptext l) 59; omega)) (by have : (splitB (trimS (ptext l) 59) 59).length = (pbase l).length := rfl; simp only [maxLen]; omega) (by rw [List.length_map, Nat.mul_one]) rfl rfl fun v3_1 oz3_1 ho3_1 => ?_
      refine (Qa)<|Qn<|Qs<|Qp<|(Qm)<|(QC ho3_1.shows) ?_
      refine e_as (show _ = ii (pbase l).length from rfl) ?_
      refine e_sub_in (q := 2) rfl rfl rfl (by omega) (by omega) ?_
      refine (Qa)<|Qn<|Qs<|Qp<|(Qa)<|Qn<|Qs<|Qs<|Qp<|(Qm)<|(QC hv)<|(Qm)<|Qn<|Qb ?_
      refine QzK [(0, _), (1, _), (4, _), (7, _), (8, _), (30, _), (31, _)] [(0, _)] (fun kk E m => ∃ (i : Nat) (L : List (List Nat)) (last : Int) (oz : Option Blk), kk = ps.length - i ∧ E = [(9, Value.int .i64 last), (32, ii i)] ∧ m = [(1, oz)] ∧ (i ≤ ps.length) ∧ (OwnS 9 1 v3_1 L.length (L.map sv) oz.toList) ∧ (L.length = (pbase l).length) ∧ (pfold (pbase l) (-1) ps = pfold L last (ps.drop i)) ∧ (shortT L (30 + 4 * i))) ⟨0, (pbase l), (-1), oz3_1, rfl, rfl, rfl, by omega, ho3_1, rfl, rfl, hb3⟩ ⟨rfl, rfl, rfl, rfl, rfl, rfl, rfl, rfl, rfl, trivial⟩ ⟨rfl, rfl, trivial⟩ ?_
      rintro kk E m ⟨i, L, last, oz, rfl, rfl, rfl, hf0_0, hf0_1, hf0_2, hf0_3, hf0_4⟩
      simp only [catE, catL]
      refine Qs<|Qp<|(Ql)<|Qn<|Qs ?_
      refine e_cond rfl ?_ ?_
      · intro hc2
        have hc2 : i < ps.length := by have := of_decide_eq_true hc2; omega
        refine Qk<|Qs<|Qb<|Qs<|Qp ?_
        refine e_atV hv (Uu 22) (Uz 3) rfl rfl (by omega) rfl ?_
        refine (QS) ?_
        refine e_loadV hv seenG (Uu 3) rfl rfl (iv_at (by omega)) rfl ?_
        refine (Qa)<|Qn<|Qs<|Qs<|Qp ?_
        refine e_join [(0, _), (1, _), (4, _), (7, _), (8, _), (9, _), (11, _), (30, _), (31, _), (32, _), (33, _), (34, _), (35, _)] [(42, .bool (decide ((ps.getD i 0) < 0) || decide ((((pbase l).length - 2 : Nat) : Int) < (ps.getD i 0))))] [(0, some _), (1, oz)] ⟨rfl, rfl, rfl, rfl, rfl, rfl, rfl, rfl, rfl, rfl, rfl, rfl, rfl, trivial⟩ ⟨rfl, rfl, trivial⟩ ?_ ?_
        · skip
          refine (Qm)<|(Ql)<|(Qm) ?_
          refine e_case (fun hb0 => ?_) (fun hb0 => ?_)
          · skip
            refine (Qo)<|(Qo)<|(Qo)<|(QT)<|Qn ?_
            exact ⟨⟨rfl, rfl, rfl, rfl, rfl, rfl, rfl, rfl, rfl, rfl, rfl, rfl, rfl, trivial⟩, ⟨bool_fin (by rw [hb0] <;> rfl), trivial⟩, ⟨rfl, rfl, trivial⟩⟩
          · skip
            refine (Qy)<|(Qm)<|(Qy)<|(Qm)<|(Qy)<|(QG)<|(QF)<|Qn ?_
            exact ⟨⟨rfl, rfl, rfl, rfl, rfl, rfl, rfl, rfl, rfl, rfl, rfl, rfl, rfl, trivial⟩, ⟨bool_fin (by rw [hb0] <;> rfl), trivial⟩, ⟨rfl, rfl, trivial⟩⟩
        · simp only [catE]
          refine e_cond rfl ?_ ?_
          · intro hc3
            have hxr := or_true2 hc3
            exact absurd he (by rw [hpw, hf0_3, pf_range (by omega) (by rw [hf0_2]; exact hxr)]; decide)
          · intro hc3
            have hxr : ¬ (ps.getD i 0 < 0 ∨ ((L.length - 2 : Nat) : Int) < ps.getD i 0) := by rw [hf0_2]; exact or_false2 hc3
            refine Qk<|Qs<|Qs<|Qp<|(Qm)<|(Qm)<|(QL)<|Qn ?_
            refine e_cond rfl ?_ ?_
            · intro hc4
              have hxl := of_decide_eq_true hc4
              exact absurd he (by rw [hpw, hf0_3, pf_form (by omega) hxr hxl]; decide)
            · intro hc4
              have hxl := of_decide_eq_false hc4
              refine Qk<|Qs<|Qp<|(Qm)<|(Qa)<|Qn<|Qs<|Qp<|(Qm)<|(Qc)<|Qn ?_
              refine e_cond rfl ?_ ?_
              · intro hc5
                have hx0 := of_decide_eq_true hc5
                refine Qp<|(Qm)<|(Qm) ?_
                refine e_atV (j := 2) hf0_1.shows (Uu 47) (Uz 9) rfl rfl (by omega) rfl ?_
                refine (QS) ?_
                refine e_loadV hf0_1.shows (seenM 1 rfl ⟨[], trivial⟩) (Uu 9) rfl rfl (texts_at (by omega)) rfl ?_
                refine e_catS (l := [112, 115, 107, 32]) rfl rfl rfl (by have := (short_at (i := 2) hf0_4).2; simp only [List.length_cons, List.length_nil]; omega) ?_
                refine e_atV (j := 2) hf0_1.shows (Uu 47) (Uz 9) rfl rfl (by omega) rfl ?_
                refine (QS) ?_
                refine e_stOwn (i := 1) hf0_1 (Uz 9) rfl rfl rfl rfl (by omega) rfl fun oz8_2 ho8_2 => ?_
                refine Qn<|Qp<|(Q2 1)<|(Qm)<|Qn ?_
                refine QzL ⟨i + 1, (insT L (ps.getD i 0)), (ps.getD i 0), _, rfl, rfl, rfl, by omega, (by first | exact own_fix (own_setT ho8_2) (insT_len L _).symm (by rw [insT_zero hx0]) | exact own_fix (own_setT ho8_2) (insT_len L _).symm (by rw [insT_more hx0 hxk])), (insT_len L _).trans hf0_2, (hf0_3.trans (pf_step (by omega) hxr hxl)), (by have := insT_short (ps.getD i 0) hf0_4; rw [show 30 + 4 * (i + 1) = 30 + 4 * i + 4 by omega]; exact this)⟩ ⟨rfl, rfl, rfl, rfl, rfl, rfl, rfl, rfl, rfl, trivial⟩ ⟨rfl, rfl, trivial⟩ ?_
                omega
              · intro hc5
                have hx0 := of_decide_eq_false hc5
                refine Qp<|(Qm)<|(Qm) ?_
                obtain ⟨k, hxk⟩ : ∃ k : Nat, ps.getD i 0 = (k : Int) := ⟨(ps.getD i 0).toNat, by omega⟩
                refine e_add_i (p := 1) (q := k) rfl (congrArg (fun z => some (Value.int .i64 z)) hxk) rfl (by omega) ?_
                refine e_atV hf0_1.shows (Uu 47) (Uz 9) rfl rfl (by omega) rfl ?_
                refine (QS) ?_
                refine e_loadV hf0_1.shows (seenM 1 rfl ⟨[], trivial⟩) (Uu 9) rfl rfl (texts_at (by omega)) rfl ?_
                refine e_catS (k := [32, 112, 115, 107]) rfl rfl rfl (by have := (short_at (i := 1 + k) hf0_4).2; simp only [List.length_cons, List.length_nil]; omega) ?_
                refine e_atV hf0_1.shows (Uu 47) (Uz 9) rfl rfl (by omega) rfl ?_
                refine (QS) ?_
                refine e_stOwn (i := 1) hf0_1 (Uz 9) rfl rfl rfl rfl (by omega) rfl fun oz8_2 ho8_2 => ?_
                refine Qn<|Qp<|(Q2 1)<|(Qm)<|Qn ?_
                refine QzL ⟨i + 1, (insT L (ps.getD i 0)), (ps.getD i 0), _, rfl, rfl, rfl, by omega, (by first | exact own_fix (own_setT ho8_2) (insT_len L _).symm (by rw [insT_zero hx0]) | exact own_fix (own_setT ho8_2) (insT_len L _).symm (by rw [insT_more hx0 hxk])), (insT_len L _).trans hf0_2, (hf0_3.trans (pf_step (by omega) hxr hxl)), (by have := insT_short (ps.getD i 0) hf0_4; rw [show 30 + 4 * (i + 1) = 30 + 4 * i + 4 by omega]; exact this)⟩ ⟨rfl, rfl, rfl, rfl, rfl, rfl, rfl, rfl, rfl, trivial⟩ ⟨rfl, rfl, trivial⟩ ?_
                omega
      · intro hc2
        have hc2 := of_decide_eq_false hc2
        have hz0 : i = ps.length := by omega
        have hP : (pwith l ps).2 = L := by rw [hpw, hf0_3, pf_end hz0]
        have hL4 : shortT L 60 := fun w hw => ⟨(hf0_4 w hw).1, by have := (hf0_4 w hw).2; omega⟩
        have hL5 : 2 ≤ L.length := by omega
        have hdl : (L.drop 2).length = L.length - 2 := List.length_drop
        refine Qe<|Qs ?_
        refine e_order ⟨[], 4, [], none⟩ [0, 1, 2, 3, 4, 5, 6, 8, 9, 10, 7, 11, 12, 13, 14, 15] mixed (by kernel_rfl) ?_
        refine (Qm)<|(Qm) ?_
        refine e_eqStr (k := [88, 88, 102, 97, 108, 108, 98, 97, 99, 107]) rfl rfl rfl hl (by decide) ?_
        refine (Qm)<|(Qm) ?_
        refine e_atV (j := 0) hf0_1.shows (Uu 47) (Uz 9) rfl rfl (by omega) rfl ?_
        refine (QS) ?_
        refine e_loadV hf0_1.shows (seenM 1 rfl ⟨[], trivial⟩) (Uu 9) rfl rfl (texts_at (by omega)) rfl ?_
        refine (Qm) ?_
        refine e_atV (j := 1) hf0_1.shows (Uu 47) (Uz 9) rfl rfl (by omega) rfl ?_
        refine (QS) ?_
        refine e_loadV hf0_1.shows (seenM 1 rfl ⟨[], trivial⟩) (Uu 9) rfl rfl (texts_at (by omega)) rfl ?_
        refine e_callN 2 (fun v => v) rfl rfl (Un 25) seenG (tokens_fn (G := G) (L.getD 0 []) (short_at (i := 0) hL4).1 (by have := (short_at (i := 0) hL4).2; omega)) (by have := toks_len (L.getD 0 []); have := (short_at (i := 0) hL4).2; simp only [maxLen]; omega) (by rw [List.length_map, Nat.mul_one]) rfl rfl fun v4_2 oz4_2 ho4_2 => ?_
        refine e_callN 3 (fun v => v) rfl rfl (Un 25) seenG (tokens_fn (G := G) (L.getD 1 []) (short_at (i := 1) hL4).1 (by have := (short_at (i := 1) hL4).2; omega)) (by have := toks_len (L.getD 1 []); have := (short_at (i := 1) hL4).2; simp only [maxLen]; omega) (by rw [List.length_map, Nat.mul_one]) rfl rfl fun v4_3 oz4_3 ho4_3 => ?_
        refine e_build #[v4_2, v4_3] (Ub 23 rfl) (Uu 23 rfl) (Uz 22 rfl) rfl (fill2v rfl (shows_one ho4_2.shows) (shows_one ho4_3.shows)) rfl ?_
        refine e_buildS (patC l (decide (l = nXF)) v v4_2 v4_3 nilS) (Ub 26 rfl) (Uu 26 rfl) pls26 rfl (fillP (shows_one hv) rfl rfl) rfl ?_
        refine (QH 4) fun r5=>?_
        refine e_storeA (i := 4) (Uz 26) rfl rfl (arrv_size _ _) (catOkP (shows_oneC hv) (shows_oneC ho4_2.shows) (shows_oneC ho4_3.shows) rfl) rfl cells_sz (.inl rfl) ?_
        refine Qn<|Qs<|Qs<|Qp<|(Qm) ?_
        refine e_sliceV 2 L.length hf0_1.shows (Uu 47) (Uz 9) rfl rfl rfl ⟨_, rfl⟩ rfl (by omega) (by omega) rfl ?_
        refine (QC (hf0_1.shows_drop2 hL5))<|(Qm)<|Qn<|Qb ?_
        refine e_loopB [(0, _), (1, _), (4, _), (7, _), (8, _), (9, _), (12, _), (30, _), (31, _), (32, _), (80, _), (81, _)] [(0, _), (1, oz), (2, oz4_2), (3, oz4_3)] (fun kk E m fz => ∃ (u : Nat) (w : Value) (oz9 : Option Blk) (tvs : List Value), kk = (L.drop 2).length - u ∧ E = [(82, ii u)] ∧ m = [(4, some ⟨r5, patC l (decide (l = nXF)) v v4_2 v4_3 w, 26⟩), (60, oz9)] ∧ (u ≤ (L.drop 2).length) ∧ (OwnS 22 1 w tvs.length tvs oz9.toList) ∧ (ShowsLI fz tvs ((((L.drop 2).take u).map toks).map ci))) (k := (L.drop 2).length - 0) (E0 := [(82, ii 0)]) (M0 := [(4, some ⟨r5, patC l (decide (l = nXF)) v v4_2 v4_3 nilS, 26⟩), (60, none)]) (fz := []) ⟨0, nilS, none, [], rfl, rfl, rfl, by omega, (own_nil _ _), (by rw [List.take_zero]; exact ⟨rfl, fun i hi => absurd hi (Nat.not_lt_zero i)⟩)⟩ ⟨rfl, rfl, rfl, rfl, rfl, rfl, rfl, rfl, rfl, rfl, rfl, rfl, rfl, trivial⟩ ⟨rfl, rfl, rfl, rfl, rfl, rfl, trivial⟩ (by repeat (first | exact bag_nil | exact bag_lab _ | apply bag_skip rfl)) ?_
        rintro kk E m fz ⟨u, w, oz9, tvs, rfl, rfl, rfl, hf1_0, hf1_1, hf1_2⟩
        simp only [catE, catL]
        have htl : tvs.length = u := by rw [hf1_2.1, List.length_map, List.length_map, List.length_take]; omega
        refine Qs<|Qp<|(Ql)<|Qn<|Qs ?_
        refine e_cond rfl ?_ ?_
        · intro hc6
          have hc6 : u < (L.drop 2).length := by have := of_decide_eq_true hc6; omega
          refine Qk<|Qs<|Qb<|Qs<|Qp ?_
          refine e_atV (hf0_1.shows_drop2 hL5) (Uu 47) (Uz 9) rfl rfl (by omega) rfl ?_
          refine (QS) ?_
          refine e_loadV (hf0_1.shows_drop2 hL5) (seenM 1 rfl ⟨[], trivial⟩) (Uu 9) rfl rfl (texts_at (by omega)) rfl ?_
          refine (Qa)<|Qn<|(Qq ⟨[], 4, [], none⟩)<|(Qf 5)<|(QV 5 4)<|(Qm) ?_
          refine e_callN 5 (fun v => v) rfl rfl (Un 25) seenG (tokens_fn (G := G) ((L.drop 2).getD u []) (short_at (i := u) (shortT_drop hL4 2)).1 (by have := (short_at (i := u) (shortT_drop hL4 2)).2; omega)) (by have := toks_len ((L.drop 2).getD u []); have := (short_at (i := u) (shortT_drop hL4 2)).2; simp only [maxLen]; omega) (by rw [List.length_map, Nat.mul_one]) rfl rfl fun v5_4 oz5_4 ho5_4 => ?_
          refine e_buildSl 6 #[v5_4] (Uu 24 rfl) (Uz 22 rfl) (Ub 22 rfl) (by decide) (by decide) rfl (fill1 (by simp) (shows_one ho5_4.shows)) rfl fun r7 => ?_
          refine e_append 60 hf1_1 (shows_new _ _ (by rfl)) rfl (seen1 6 rfl ⟨[], trivial⟩) (Uu 24) (Uz 22) (Uy 22) (Ub 22) (by rfl) rfl rfl (by intro u hu; simp at hu; subst hu; exact shows_oneC ho5_4.shows) (by simp only [maxLen]; omega) (by omega) rfl fun v5_5 oz5_5 ho5_5 => ?_
          refine (Qf 5) ?_
          refine e_stV (i := 4) 5 (Uz 24) rfl rfl (shows_oneC ho5_5.shows) rfl rfl (by decide) (.inl rfl) ?_
          refine Qn<|Qp<|(Q2 1) ?_
          refine e_freeze 5 [(0, _), (1, _), (2, _), (3, _), (4, _), (6, _), (60, _)] rfl rfl (by repeat (first | exact bag_nil | exact bag_lab _ | apply bag_skip rfl)) ⟨rfl, rfl, rfl, rfl, rfl, rfl, rfl, trivial⟩ rfl rfl ?_
          simp only [catL]
          refine (Qm)<|Qn ?_
          refine e_round (E'' := [(82, ii (u + 1))]) (M'' := [(4, some ⟨r5, patC l (decide (l = nXF)) v v4_2 v4_3 _, 26⟩), (60, _)]) (fz' := (fz ++ oz5_4.toList)) ⟨u + 1, _, _, tvs ++ [v5_4], rfl, rfl, rfl, by omega, (own_fix ho5_5 (by rw [List.length_append]; rfl) rfl), (by rw [drop_map1 (by omega)]; exact li_push (li_mono hf1_2 (fun x hx => List.mem_append_left _ hx)) (ho5_4.shows.mono (fun x hx => List.mem_append_right _ hx)))⟩ ⟨rfl, rfl, rfl, rfl, rfl, rfl, rfl, rfl, rfl, rfl, rfl, rfl, rfl, trivial⟩ ⟨rfl, rfl, rfl, rfl, rfl, rfl, trivial⟩ (by repeat (first | exact bag_nil | exact bag_lab _ | apply bag_skip rfl)) (by omega)
        · intro hc6
          have hc6 := of_decide_eq_false hc6
          have hz1 : u = (L.drop 2).length := by omega
          refine Qe<|Qs<|Qp<|(QD 4) ?_
          refine e_freeze 2 [(0, _), (1, _), (3, _), (4, _), (60, _)] rfl rfl (by repeat (first | exact bag_nil | exact bag_lab _ | apply bag_skip rfl)) ⟨rfl, rfl, rfl, rfl, rfl, trivial⟩ rfl rfl ?_
          simp only [catL]
          refine e_freeze 3 [(0, _), (1, _), (4, _), (60, _)] rfl rfl (by repeat (first | exact bag_nil | exact bag_lab _ | apply bag_skip rfl)) ⟨rfl, rfl, rfl, rfl, trivial⟩ rfl rfl ?_
          simp only [catL]
          refine e_freeze 60 [(0, _), (1, _), (4, _)] rfl rfl (by repeat (first | exact bag_nil | exact bag_lab _ | apply bag_skip rfl)) ⟨rfl, rfl, rfl, trivial⟩ rfl rfl ?_
          simp only [catL]
          refine e_storeA (i := 0) (Uz 26) rfl rfl (arrv_size _ _) (catOkP (shows_oneC hv) (shows_oneC ho4_2.shows) (shows_oneC ho4_3.shows) (shows_oneC hf1_1.shows)) rfl cells_sz (.inl rfl) ?_
          refine (Qa)<|Qn<|Qr ?_
          exact ⟨_, _, _, (((fz ++ oz4_2.toList) ++ oz4_3.toList) ++ oz9.toList), rfl, .cell (i := 0) rfl rfl (Uu 26) rfl (Uz 26) (arrv_size _ _), .tmp rfl, (by rw [hP]; exact ⟨v4_2, v4_3, w, tvs, rfl, by rw [ci_ii]; exact ho4_2.shows.mono (fun x hx => List.mem_append_left _ (List.mem_append_left _ (List.mem_append_right _ hx))), by rw [ci_ii]; exact ho4_3.shows.mono (fun x hx => List.mem_append_left _ (List.mem_append_right _ hx)), by rw [List.length_map, ← hz1, ← htl]; exact hf1_1.shows.mono (fun x hx => List.mem_append_right _ hx), by rw [List.length_map, ← hz1, htl], by have h9 := hf1_2; rw [hz1, List.take_length] at h9; exact li_mono h9 (fun x hx => List.mem_append_left _ (List.mem_append_left _ (List.mem_append_left _ hx)))⟩), (by repeat (first | exact bag_nil | exact bag_lab _ | apply bag_skip rfl))⟩
end Go.Proofs.YtejejmhbhegneaaDoor
namespace Go.Proofs.YtejejmhbhegneaaDoor
open Go Go.RowKit
variable {G : Mem}
set_option maxHeartbeats 400000 in
theorem tell_fn (r : Nat) (es : List Ev) (w k : Nat) (hw : w < 2) (hk : k = 1 ∨ k = 2) : Fx Tryd.prog G [(⟨r, kst (stE es), 73⟩ : Blk)] 66 #[ptr r, ii w, ii k] (fun v l1 nw => nw = [] ∧ ∃ c', l1 = [⟨r, c', 73⟩] ∧ (v = Value.bool (!(hap es w k)) ∧ ((!(hap es w k)) = true → c' = kst (stE (es ++ [(w, k)]))))) := by
  refine fxWS (n := 22) Tryd.func66 rfl rfl (by simp) (argE [ptr r, ii w, ii k] 0) (argE_ok _) ?_
  refine Qs<|Qp<|(Qa)<|Qn<|Qs<|Qs<|Qp<|(Qm)<|(Qm)<|(Qm) ?_
  refine e_nilCheck rfl rfl ?_
  refine (Qf 0)<|(QB (3 * w))<|(QB (3 * w + k)) ?_
  refine e_load1 (i := 0) (Uu 4) rfl rfl rfl (arrv_get (by omega)) rfl ⟨[], trivial⟩ ?_
  refine e_as (show _ = Value.bool (hap es w k) from congrArg Value.bool (stE_key hk hw)) ?_
  refine Qn ?_
  refine e_cond rfl ?_ ?_
  · intro hc0
    refine Qs<|Qp<|(Qa)<|Qn<|Qr ?_
    exact ⟨_, _, _, rfl, .tmp rfl, (by first | exact ⟨by rw [hc0]; rfl, fun _ => kst_key hk hw⟩ | exact ⟨by rw [hc0]; rfl, fun h => by rw [hc0] at h; cases h⟩), 0, rfl⟩
  · intro hc0
    refine Qk<|Qs<|Qp<|(Qm)<|(Qm)<|(Qm) ?_
    refine e_nilCheck rfl rfl ?_
    refine (Qf 0)<|(QB (3 * w))<|(QB (3 * w + k)) ?_
    refine e_st1 (i := 0) (Uz 4) rfl rfl rfl rfl (by omega) (.inl rfl) ?_
    refine Qn<|Qs<|Qp<|(Qa)<|Qn<|Qr ?_
    exact ⟨_, _, _, rfl, .tmp rfl, (by first | exact ⟨by rw [hc0]; rfl, fun _ => kst_key hk hw⟩ | exact ⟨by rw [hc0]; rfl, fun h => by rw [hc0] at h; cases h⟩), 0, rfl⟩
set_option maxHeartbeats 400000 in
theorem letters_fn (t : Nat) : Fn Tryd.prog G 90 #[ii t] (.agg (arr .i64 2 (ltr t))) := by
  refine Qf1 Tryd.func90 ?_
  refine Qs<|Qp<|(QH 0) fun r1=>Qn<|Qs<|Qs<|Qp<|(Qm)<|Qn<|Qb<|Qs<|Qp<|(Qc)<|(Qa)<|Qn ?_
  refine e_cond rfl ?_ ?_
  · intro hc0
    obtain rfl : t = 3 := by have := of_decide_eq_true hc0; omega
    refine Qs<|Qp ?_
    refine e_build (arr .i64 2 (ltr 3)) (Ub 132 rfl) (Uu 132 rfl) (Uz 3 rfl) rfl (by kernel_rfl) rfl ?_
    refine (Qt 0)<|Qn<|Qr ?_
    first | (rw [show ltr t = ltr 6 by funext j; unfold ltr; rw [if_neg hn0, if_neg hn1, if_neg hn2]; rfl]) | skip
    exact ⟨_, rfl, .cell (i := 0) rfl rfl (Uu 132) rfl (Uz 132) (arr_size _ _ _)⟩
  · intro hc0
    have hn0 : ¬ t = 3 := by have := of_decide_eq_false hc0; omega
    refine Qs<|Qp<|(Qc)<|(Qa)<|Qn ?_
    refine e_cond rfl ?_ ?_
    · intro hc1
      obtain rfl : t = 4 := by have := of_decide_eq_true hc1; omega
      refine Qs<|Qp ?_
      refine e_build (arr .i64 2 (ltr 4)) (Ub 132 rfl) (Uu 132 rfl) (Uz 3 rfl) rfl (by kernel_rfl) rfl ?_
      refine (Qt 0)<|Qn<|Qr ?_
      first | (rw [show ltr t = ltr 6 by funext j; unfold ltr; rw [if_neg hn0, if_neg hn1, if_neg hn2]; rfl]) | skip
      exact ⟨_, rfl, .cell (i := 0) rfl rfl (Uu 132) rfl (Uz 132) (arr_size _ _ _)⟩
    · intro hc1
      have hn1 : ¬ t = 4 := by have := of_decide_eq_false hc1; omega
      refine Qs<|Qp<|(Qc)<|(Qa)<|Qn ?_
      refine e_cond rfl ?_ ?_
      · intro hc2
        obtain rfl : t = 5 := by have := of_decide_eq_true hc2; omega
        refine Qs<|Qp ?_
        refine e_build (arr .i64 2 (ltr 5)) (Ub 132 rfl) (Uu 132 rfl) (Uz 3 rfl) rfl (by kernel_rfl) rfl ?_
        refine (Qt 0)<|Qn<|Qr ?_
        first | (rw [show ltr t = ltr 6 by funext j; unfold ltr; rw [if_neg hn0, if_neg hn1, if_neg hn2]; rfl]) | skip
        exact ⟨_, rfl, .cell (i := 0) rfl rfl (Uu 132) rfl (Uz 132) (arr_size _ _ _)⟩
      · intro hc2
        have hn2 : ¬ t = 5 := by have := of_decide_eq_false hc2; omega
        refine Qk<|Qs<|Qp ?_
        refine e_build (arr .i64 2 (ltr 6)) (Ub 132 rfl) (Uu 132 rfl) (Uz 3 rfl) rfl (by kernel_rfl) rfl ?_
        refine (Qt 0)<|Qn<|Qr ?_
        first | (rw [show ltr t = ltr 6 by funext j; unfold ltr; rw [if_neg hn0, if_neg hn1, if_neg hn2]; rfl]) | skip
        exact ⟨_, rfl, .cell (i := 0) rfl rfl (Uu 132) rfl (Uz 132) (arr_size _ _ _)⟩
set_option maxHeartbeats 2000000 in
theorem dlock_fn (r : Nat) (s : Nat → Bool) (w : Nat) (hw : w < 2) : Fn Tryd.prog ((⟨r, kst s, 73⟩ : Blk) :: G) 68 #[ptr r, ii w] (.bool (mlS s w)) := by
  have hmo : 4 ≤ mown (w : Int) ∧ mown (w : Int) ≤ 5 := by unfold mown; split <;> omega
  have hmf : 4 ≤ mfre (w : Int) ∧ mfre (w : Int) ≤ 5 := by unfold mfre; split <;> omega
  refine Qf1 Tryd.func68 ?_
  refine Qs<|Qp<|(Qa)<|Qn<|Qs<|Qp<|(Qa)<|(Qa)<|Qn<|Qs<|Qs<|Qp<|(Qm)<|(Qc)<|Qn ?_
  refine s_join [(0, _), (1, _), (4, _), (7, _), (8, _)] [(5, ii (mown w)), (6, ii (mfre w))] [] ⟨rfl, rfl, rfl, rfl, rfl, trivial⟩ trivial ?_ ?_
  · skip
    refine e_cond rfl ?_ ?_
    · intro hc0
      have hc0 := of_decide_eq_true hc0
      refine Qp<|(Qm)<|(Qm)<|(Qa)<|(Qa)<|Qn ?_
      exact ⟨⟨rfl, rfl, rfl, rfl, rfl, trivial⟩, ⟨(by first | rw [mown, if_pos (by assumption)]; rfl | rw [mown, if_neg (by assumption)]; rfl), (by first | rw [mfre, if_pos (by assumption)]; rfl | rw [mfre, if_neg (by assumption)]; rfl), trivial⟩, trivial⟩
    · intro hc0
      have hc0 := of_decide_eq_false hc0
      refine Qk ?_
      exact ⟨⟨rfl, rfl, rfl, rfl, rfl, trivial⟩, ⟨(by first | rw [mown, if_pos (by assumption)]; rfl | rw [mown, if_neg (by assumption)]; rfl), (by first | rw [mfre, if_pos (by assumption)]; rfl | rw [mfre, if_neg (by assumption)]; rfl), trivial⟩, trivial⟩
  · simp only [catE]
    refine Qs<|Qs<|Qp ?_
    refine e_join [(0, _), (1, _), (4, _), (5, _), (6, _), (7, _), (8, _)] [(25, .bool (s 13 && !(s (3 * w + 1))))] [] ⟨rfl, rfl, rfl, rfl, rfl, rfl, rfl, trivial⟩ trivial ?_ ?_
    · skip
      refine (Qm) ?_
      refine e_nilCheck rfl rfl ?_
      refine (Qf 6)<|(QA 13 7) ?_
      refine e_load1g (i := 0) (Uu 4) rfl rfl rfl (arrv_get (by decide)) rfl ?_
      refine e_as (show _ = Value.bool (s 13) from rfl) ?_
      refine (Qm) ?_
      refine e_case (fun hb0 => ?_) (fun hb0 => ?_)
      · skip
        refine (Qy)<|(Qm)<|(Qy)<|(Qm)<|(Qy) ?_
        refine e_nilCheck rfl rfl ?_
        refine (Qy)<|(Qf 0)<|(Qy)<|(QB (3 * w))<|(Qy)<|(QA (3 * w + 1) 1)<|(Qy) ?_
        refine e_load1g (i := 0) (Uu 4) rfl rfl rfl (arrv_get (by omega)) rfl ?_
        refine e_as (show _ = Value.bool (s (3 * w + 1)) from rfl) ?_
        refine (Qy)<|(Q0)<|(QT)<|Qn ?_
        exact ⟨⟨rfl, rfl, rfl, rfl, rfl, rfl, rfl, trivial⟩, ⟨bool_fin (by rw [hb0] <;> rfl), trivial⟩, trivial⟩
      · skip
        refine (Qo)<|(Qo)<|(Qo)<|(Qo)<|(Qo)<|(Qo)<|(Qo)<|(Qo)<|(QF)<|Qn ?_
        exact ⟨⟨rfl, rfl, rfl, rfl, rfl, rfl, rfl, trivial⟩, ⟨bool_fin (by rw [hb0] <;> rfl), trivial⟩, trivial⟩
    · simp only [catE]
      refine e_cond rfl ?_ ?_
      · intro hc1
        rw [show mlS s w = false by rw [mlS, hc1]; rfl]
        refine Qs<|Qp<|(Qa)<|Qn<|Qr ?_
        exact ⟨_, rfl, .tmp rfl⟩
      · intro hc1
        have hz1 := hc1
        refine Qk<|Qs<|Qs<|Qp ?_
        refine e_join [(0, _), (1, _), (4, _), (5, _), (6, _), (7, _), (8, _), (25, _)] [(39, .bool (s (6 + mown w) && !(s 9)))] [] ⟨rfl, rfl, rfl, rfl, rfl, rfl, rfl, rfl, trivial⟩ trivial ?_ ?_
        · skip
          refine (Qm)<|(Qm) ?_
          refine e_nilCheck rfl rfl ?_
          refine (Qf 6)<|(QB (6 + mown w)) ?_
          refine e_load1g (i := 0) (Uu 4) rfl rfl rfl (arrv_get (by omega)) rfl ?_
          refine e_as (show _ = Value.bool (s (6 + mown w)) from rfl) ?_
          refine (Qm) ?_
          refine e_case (fun hb1 => ?_) (fun hb1 => ?_)
          · skip
            refine (Qy)<|(Qm)<|(Qy) ?_
            refine e_nilCheck rfl rfl ?_
            refine (Qy)<|(Qf 6)<|(Qy)<|(QA 9 3)<|(Qy) ?_
            refine e_load1g (i := 0) (Uu 4) rfl rfl rfl (arrv_get (by decide)) rfl ?_
            refine e_as (show _ = Value.bool (s 9) from rfl) ?_
            refine (Qy)<|(Q0)<|(QT)<|Qn ?_
            exact ⟨⟨rfl, rfl, rfl, rfl, rfl, rfl, rfl, rfl, trivial⟩, ⟨bool_fin (by rw [hb1] <;> rfl), trivial⟩, trivial⟩
          · skip
            refine (Qo)<|(Qo)<|(Qo)<|(Qo)<|(Qo)<|(Qo)<|(QF)<|Qn ?_
            exact ⟨⟨rfl, rfl, rfl, rfl, rfl, rfl, rfl, rfl, trivial⟩, ⟨bool_fin (by rw [hb1] <;> rfl), trivial⟩, trivial⟩
        · simp only [catE]
          refine e_cond rfl ?_ ?_
          · intro hc2
            rw [show mlS s w = false by rw [mlS, hz1, hc2]; rfl]
            refine Qs<|Qp<|(Qa)<|Qn<|Qr ?_
            exact ⟨_, rfl, .tmp rfl⟩
          · intro hc2
            rw [show mlS s w = (!(s 12) || s (6 + mfre w)) by rw [mlS, hz1, hc2]; rfl]
            refine Qk<|Qs<|Qp ?_
            refine e_join [(0, _), (1, _), (5, _), (6, _), (7, _), (8, _), (25, _), (39, _)] [(4, .bool (!(s 12) || s (6 + mfre w)))] [] ⟨rfl, rfl, rfl, rfl, rfl, rfl, rfl, rfl, trivial⟩ trivial ?_ ?_
            · skip
              refine (Qm) ?_
              refine e_nilCheck rfl rfl ?_
              refine (Qf 6)<|(QA 12 6) ?_
              refine e_load1g (i := 0) (Uu 4) rfl rfl rfl (arrv_get (by decide)) rfl ?_
              refine e_as (show _ = Value.bool (s 12) from rfl) ?_
              refine (Q0)<|(Qm) ?_
              refine e_case (fun hb2 => ?_) (fun hb2 => ?_)
              · skip
                refine (Qo)<|(Qo)<|(Qo)<|(Qo)<|(Qo)<|(Qo)<|(QT)<|(Qa)<|Qn ?_
                exact ⟨⟨rfl, rfl, rfl, rfl, rfl, rfl, rfl, rfl, trivial⟩, ⟨bool_fin (by rw [hb2] <;> rfl), trivial⟩, trivial⟩
              · skip
                refine (Qy)<|(Qm)<|(Qy)<|(Qm)<|(Qy) ?_
                refine e_nilCheck rfl rfl ?_
                refine (Qy)<|(Qf 6)<|(Qy)<|(QB (6 + mfre w))<|(Qy) ?_
                refine e_load1g (i := 0) (Uu 4) rfl rfl rfl (arrv_get (by omega)) rfl ?_
                refine e_as (show _ = Value.bool (s (6 + mfre w)) from rfl) ?_
                refine (QF)<|(Qa)<|Qn ?_
                exact ⟨⟨rfl, rfl, rfl, rfl, rfl, rfl, rfl, rfl, trivial⟩, ⟨bool_fin (by rw [hb2] <;> rfl), trivial⟩, trivial⟩
            · simp only [catE]
              refine Qr ?_
              exact ⟨_, rfl, .tmp rfl⟩
set_option maxHeartbeats 2000000 in
theorem chkl_fn (v : Value) (vs : List Value) (ls : List (List Int)) (hv : Shows G 1 v vs.length vs) (hL : ShowsLI G vs ls) (hn : vs.length ≤ 1000000) : Fn Tryd.prog G 33 #[v] (ii (first1 ls)) := by
  have hvl := hL.1
  refine Qf1 Tryd.func33 ?_
  refine Qs<|Qp<|(Qa)<|Qn<|Qs<|Qs<|Qp<|(Qm)<|(QC hv)<|(Qm)<|Qn<|Qb ?_
  refine QzK [(7, _), (8, _)] [] (fun kk E m => ∃ (i : Nat), kk = vs.length - i ∧ E = [(9, ii i)] ∧ m = [] ∧ (i ≤ vs.length) ∧ (∀ q, q < i → (ls.getD q []).length ≤ 6 ∧ (ls.getD q []).any wrong = false)) ⟨0, rfl, rfl, rfl, by omega, fun _ h => absurd h (Nat.not_lt_zero _)⟩ ⟨rfl, rfl, rfl, trivial⟩ trivial ?_
  rintro kk E m ⟨i, rfl, rfl, rfl, hf0_0, hf0_1⟩
  simp only [catE, catL]
  refine Qs<|Qp<|(Ql)<|Qn<|Qs ?_
  refine e_cond rfl ?_ ?_
  · intro hc0
    have hc0 : i < vs.length := by have := of_decide_eq_true hc0; omega
    refine Qk<|Qs<|Qb<|Qs<|Qp ?_
    refine e_atV hv (Uu 24) (Uz 22) rfl rfl (by omega) rfl ?_
    refine (QS) ?_
    refine e_loadV hv seenG (Uu 22) rfl rfl (get_getD (by omega)) rfl ?_
    refine (Qa)<|Qn<|Qs<|Qs<|Qp<|(Qm)<|(QC (hL.2 i (by omega)))<|(QG)<|Qn ?_
    refine e_cond rfl ?_ ?_
    · intro hc1
      have hc1 := of_decide_eq_true hc1
      rw [first1_at (by omega) hf0_1, first1, if_pos (by omega)]
      refine Qs<|Qp<|(Qa)<|Qn<|Qr ?_
      first | rw [first1_none (fun q hq => hf0_1 q (by omega))] | skip
      exact ⟨_, rfl, .tmp rfl⟩
    · intro hc1
      have hc1 := of_decide_eq_false hc1
      refine Qk<|Qs<|Qp<|(Qm)<|(QC (hL.2 i (by omega)))<|(Qm)<|Qn<|Qb ?_
      refine QzK [(7, _), (8, _), (9, _), (16, _), (17, _)] [] (fun kk E m => ∃ (j : Nat), kk = (ls.getD i []).length - j ∧ E = [(18, ii j)] ∧ m = [] ∧ (j ≤ (ls.getD i []).length) ∧ (∀ p, p < j → wrong ((ls.getD i []).getD p 0) = false)) ⟨0, rfl, rfl, rfl, by omega, fun _ h => absurd h (Nat.not_lt_zero _)⟩ ⟨rfl, rfl, rfl, rfl, rfl, rfl, trivial⟩ trivial ?_
      rintro kk E m ⟨j, rfl, rfl, rfl, hf1_0, hf1_1⟩
      simp only [catE, catL]
      refine Qs<|Qp<|(Ql)<|Qn<|Qs ?_
      refine e_cond rfl ?_ ?_
      · intro hc2
        have hc2 : j < (ls.getD i []).length := by have := of_decide_eq_true hc2; omega
        refine Qk<|Qs<|Qb<|Qs<|Qp ?_
        refine e_atV (hL.2 i (by omega)) (Uu 22) (Uz 3) rfl rfl (by omega) rfl ?_
        refine (QS) ?_
        refine e_loadV (hL.2 i (by omega)) seenG (Uu 3) rfl rfl (iv_at (by omega)) rfl ?_
        refine (Qa)<|Qn<|Qs<|Qp ?_
        refine e_join [(6, _), (7, _), (8, _), (9, _), (16, _), (17, _), (18, _), (19, _), (20, _), (21, _)] [(27, .bool (wrong ((ls.getD i []).getD j 0)))] [] ⟨rfl, rfl, rfl, rfl, rfl, rfl, rfl, rfl, rfl, rfl, trivial⟩ trivial ?_ ?_
        · skip
          refine (Qm)<|(Ql)<|(Qm) ?_
          refine e_case (b := decide ((ls.getD i []).getD j 0 < 1)) (fun hb0 => ?_) (fun hb0 => ?_)
          · skip
            refine (Qo)<|(Qo)<|(QT)<|Qn ?_
            exact ⟨⟨rfl, rfl, rfl, rfl, rfl, rfl, rfl, rfl, rfl, rfl, trivial⟩, ⟨bool_fin (by rw [wrong, hb0] <;> rfl), trivial⟩, trivial⟩
          · skip
            refine (Qy)<|(Qm)<|(Qy)<|(QG)<|(QF)<|Qn ?_
            exact ⟨⟨rfl, rfl, rfl, rfl, rfl, rfl, rfl, rfl, rfl, rfl, trivial⟩, ⟨bool_fin (by rw [wrong, hb0] <;> rfl), trivial⟩, trivial⟩
        · simp only [catE]
          refine e_cond rfl ?_ ?_
          · intro hc3
            rw [first1_at (by omega) hf0_1, first1, if_neg (by omega), any_at (by omega) hc3, if_pos rfl]
            refine Qs<|Qp<|(Qa)<|Qn<|Qr ?_
            first | rw [first1_none (fun q hq => hf0_1 q (by omega))] | skip
            exact ⟨_, rfl, .tmp rfl⟩
          · intro hc3
            have hcf := hc3
            refine Qk<|Qp<|(Q2 1)<|(Qm)<|Qn ?_
            refine QzL ⟨j + 1, rfl, rfl, rfl, by omega, fun p h => by by_cases e : p = j; (subst e; exact hcf); exact hf1_1 p (by omega)⟩ ⟨rfl, rfl, rfl, rfl, rfl, rfl, trivial⟩ trivial ?_
            omega
      · intro hc2
        have hc2 := of_decide_eq_false hc2
        have hz1 : j = (ls.getD i []).length := by omega
        refine Qe<|Qp<|(Q2 1)<|(Qm)<|Qn ?_
        refine QzL ⟨i + 1, rfl, rfl, rfl, by omega, fun q h => by by_cases e : q = i; (subst e; exact ⟨by omega, any_none (fun p hp => hf1_1 p (by omega))⟩); exact hf0_1 q (by omega)⟩ ⟨rfl, rfl, rfl, trivial⟩ trivial ?_
        omega
  · intro hc0
    have hc0 := of_decide_eq_false hc0
    have hz0 : i = vs.length := by omega
    refine Qe<|Qs<|Qp<|(Qa)<|Qn<|Qr ?_
    first | rw [first1_none (fun q hq => hf0_1 q (by omega))] | skip
    exact ⟨_, rfl, .tmp rfl⟩
end Go.Proofs.YtejejmhbhegneaaDoor
namespace Go.Proofs.YtejejmhbhegneaaDoor
open Go Go.RowKit
variable {G : Mem}
set_option maxHeartbeats 4000000 in
theorem ahead_fn (r : Nat) (es : List Ev) (w : Nat) (hw : w < 2) (v : Value) (l : List Nat) (hv : Shows G 1 v l.length ((ci l).map iv)) (ht : ∀ x ∈ l, 1 ≤ x ∧ x ≤ 7) (hz : l.length ≤ 1000) : Fx Tryd.prog G [(⟨r, kst (stE es), 73⟩ : Blk)] 45 #[ptr r, ii w, v] (fun u l1 nw => nw = [] ∧ ∃ c', l1 = [⟨r, c', 73⟩] ∧ (u = Value.bool (okPR es w l) ∧ ((okPR es w l) = true → c' = kst (stE (es ++ rowE w l))))) := by
  refine fxWS (n := 29) Tryd.func45 rfl rfl (by simp) (argE [ptr r, ii w, v] 0) (argE_ok _) ?_
  refine Qs<|Qp<|(Qa)<|Qn<|Qs<|Qs<|Qp<|(Qm)<|(QC hv)<|(Qm)<|Qn<|Qb ?_
  refine QzK [(0, _), (1, _), (9, _), (10, _)] [] (fun kk E m => ∃ (j : Nat), kk = l.length - j ∧ E = [(11, ii j)] ∧ m = [(0, some ⟨r, kst (stE (es ++ (rowE w l).take j)), 73⟩)] ∧ (j ≤ l.length) ∧ (∀ t, t < j → okPre (es ++ (rowE w l).take t) (w, l.getD t 0) = true)) ⟨0, rfl, rfl, rfl, by omega, fun t ht => absurd ht (Nat.not_lt_zero t)⟩ ⟨rfl, rfl, rfl, rfl, rfl, trivial⟩ ⟨(by rw [rowE_zero] <;> rfl), trivial⟩ ?_
  rintro kk E m ⟨j, rfl, rfl, rfl, hf0_0, hf0_1⟩
  simp only [catE, catL]
  refine Qs<|Qp<|(Ql)<|Qn<|Qs ?_
  refine e_cond rfl ?_ ?_
  · intro hc0
    have hc0 : j < l.length := by have := of_decide_eq_true hc0; omega
    refine Qk<|Qs<|Qb<|Qs<|Qp ?_
    refine e_atV hv (Uu 22) (Uz 3) rfl rfl (by omega) rfl ?_
    refine (QS) ?_
    refine e_loadV hv seenG (Uu 3) rfl rfl (ci_at (by omega)) rfl ?_
    refine e_gen_i fun x hx => ?_
    refine (Qa)<|Qn ?_
    have hx9 := ht (l.getD j 0) (by rw [List.getD_eq_getElem?_getD, List.getElem?_eq_getElem (by omega)]; exact List.getElem_mem _)
    rw [← hx] at hx9
    refine Qs ?_
    rcases (by omega : x = 1 ∨ x = 2 ∨ 2 < x) with e1 | e2 | e3
    · skip
      refine QR ⟨[], 5, [], none⟩<|(Qm)<|(QN)<|(Qaf)<|(Qm)<|(Qo)<|(Qo)<|(QF)<|(Qm)<|(Qy)<|(Qm)<|(Qy)<|(Qm)<|(Qy)<|(Qm)<|(Qy) ?_
      refine e_callWS 0 rfl rfl (Un 66) rfl (fun _ h => by cases h) (tell_fn (G := []) r (es ++ (rowE w l).take j) w x hw (.inl e1)) ⟨_, _, rfl, fun _ => rfl⟩ rfl rfl fun v3_1 c3_1 hS3_1 => ?_
      obtain ⟨rfl, hq1⟩ := hS3_1
      refine (Qy)<|(Q0)<|(QF)<|Qn ?_
      refine e_cond rfl ?_ ?_
      · intro hc1
        have hap1 : hap (es ++ (rowE w l).take j) w x = true := by simpa using hc1
        have hbad : okPre (es ++ (rowE w l).take j) (w, l.getD j 0) = false := by rw [okPre_tok, ← hx, hap1]; simp
        have hrow := okPR_bad (show j < l.length by omega) hbad
        refine Qs<|Qp<|(Qa)<|Qn<|Qr ?_
        exact ⟨_, _, _, rfl, .tmp rfl, (by first | exact ⟨by rw [hrow], fun h => by rw [hrow] at h; cases h⟩ | (rw [hz0, rowE_all]; exact ⟨by rw [okPR_ok (fun t h => hf0_1 t (by omega))], fun _ => rfl⟩)), 0, rfl⟩
      · intro hc1
        have hap0 : hap (es ++ (rowE w l).take j) w x = false := by simpa using hc1
        have hok : okPre (es ++ (rowE w l).take j) (w, l.getD j 0) = true := by rw [okPre_tok, ← hx, hap0, decide_eq_true (by omega)]; rfl
        obtain rfl := hq1 (by rw [hap0]; rfl)
        refine Qk<|Qp<|(Q2 1)<|(Qm)<|Qn ?_
        refine QzL ⟨j + 1, rfl, rfl, rfl, by omega, fun t ht => by rcases (by omega : t < j ∨ t = j) with h | rfl; exact hf0_1 t h; exact hok⟩ ⟨rfl, rfl, rfl, rfl, rfl, trivial⟩ ⟨(by rw [rowE_next (by omega), ← hx] <;> rfl), trivial⟩ ?_
        omega
    · skip
      refine QR ⟨[], 5, [], none⟩<|(Qm)<|(QN)<|(Qat)<|(Qm)<|(Qy)<|(Qm)<|(Qy)<|(QN)<|(Qaf)<|(QT)<|(Qm)<|(Qy)<|(Qm)<|(Qy)<|(Qm)<|(Qy)<|(Qm)<|(Qy) ?_
      refine e_callWS 0 rfl rfl (Un 66) rfl (fun _ h => by cases h) (tell_fn (G := []) r (es ++ (rowE w l).take j) w x hw (.inr e2)) ⟨_, _, rfl, fun _ => rfl⟩ rfl rfl fun v3_1 c3_1 hS3_1 => ?_
      obtain ⟨rfl, hq1⟩ := hS3_1
      refine (Qy)<|(Q0)<|(QF)<|Qn ?_
      refine e_cond rfl ?_ ?_
      · intro hc1
        have hap1 : hap (es ++ (rowE w l).take j) w x = true := by simpa using hc1
        have hbad : okPre (es ++ (rowE w l).take j) (w, l.getD j 0) = false := by rw [okPre_tok, ← hx, hap1]; simp
        have hrow := okPR_bad (show j < l.length by omega) hbad
        refine Qs<|Qp<|(Qa)<|Qn<|Qr ?_
        exact ⟨_, _, _, rfl, .tmp rfl, (by first | exact ⟨by rw [hrow], fun h => by rw [hrow] at h; cases h⟩ | (rw [hz0, rowE_all]; exact ⟨by rw [okPR_ok (fun t h => hf0_1 t (by omega))], fun _ => rfl⟩)), 0, rfl⟩
      · intro hc1
        have hap0 : hap (es ++ (rowE w l).take j) w x = false := by simpa using hc1
        have hok : okPre (es ++ (rowE w l).take j) (w, l.getD j 0) = true := by rw [okPre_tok, ← hx, hap0, decide_eq_true (by omega)]; rfl
        obtain rfl := hq1 (by rw [hap0]; rfl)
        refine Qk<|Qp<|(Q2 1)<|(Qm)<|Qn ?_
        refine QzL ⟨j + 1, rfl, rfl, rfl, by omega, fun t ht => by rcases (by omega : t < j ∨ t = j) with h | rfl; exact hf0_1 t h; exact hok⟩ ⟨rfl, rfl, rfl, rfl, rfl, trivial⟩ ⟨(by rw [rowE_next (by omega), ← hx] <;> rfl), trivial⟩ ?_
        omega
    · skip
      refine Qp<|(Qm)<|(QN)<|(Qat)<|(Qm)<|(Qy)<|(Qm)<|(Qy)<|(QN)<|(Qat)<|(QT)<|(Qm)<|(Qo)<|(Qo)<|(Qo)<|(Qo)<|(Qo)<|(QT)<|Qn<|(Qct) ?_
      have hbad : okPre (es ++ (rowE w l).take j) (w, l.getD j 0) = false := by rw [okPre_tok, ← hx, decide_eq_false (by omega)]; rfl
      have hrow := okPR_bad (show j < l.length by omega) hbad
      refine Qs<|Qp<|(Qa)<|Qn<|Qr ?_
      exact ⟨_, _, _, rfl, .tmp rfl, (by first | exact ⟨by rw [hrow], fun h => by rw [hrow] at h; cases h⟩ | (rw [hz0, rowE_all]; exact ⟨by rw [okPR_ok (fun t h => hf0_1 t (by omega))], fun _ => rfl⟩)), 0, rfl⟩
  · intro hc0
    have hc0 := of_decide_eq_false hc0
    have hz0 : j = l.length := by omega
    refine Qe<|Qs<|Qp<|(Qa)<|Qn<|Qr ?_
    exact ⟨_, _, _, rfl, .tmp rfl, (by first | exact ⟨by rw [hrow], fun h => by rw [hrow] at h; cases h⟩ | (rw [hz0, rowE_all]; exact ⟨by rw [okPR_ok (fun t h => hf0_1 t (by omega))], fun _ => rfl⟩)), 0, rfl⟩
end Go.Proofs.YtejejmhbhegneaaDoor
namespace Go.Proofs.YtejejmhbhegneaaDoor
open Go Go.RowKit
variable {G : Mem}
set_option maxHeartbeats 2000000 in
theorem mix_fn (r : Nat) (es : List Ev) (w t : Nat) (h3 : 3 ≤ t) (h6 : t ≤ 6) : Fx Tryd.prog G [(⟨r, kst (stE es), 73⟩ : Blk)] 80 #[ptr r, ii t] (fun v l1 nw => nw = [] ∧ ∃ c', l1 = [⟨r, c', 73⟩] ∧ (v = Value.bool (okT es w t) ∧ ((okT es w t) = true → c' = kst (stE (es ++ [(w, t)]))))) := by
  have hl0 := ltr_in t 0
  have hl1 := ltr_in t 1
  have hmb := mixB_stE (es := es) (w := w) h3 h6
  refine fxWS (n := 41) Tryd.func80 rfl rfl (by simp) (argE [ptr r, ii t] 0) (argE_ok _) ?_
  refine Qs<|Qp<|(Qa)<|Qn<|Qs<|Qp<|(Qm) ?_
  refine e_call rfl (Un 90) (letters_fn t) rfl rfl ?_
  refine (QH 1) fun r2=>(Qt 1)<|Qn<|Qs<|Qs<|(Qg) ?_
  refine e_join [(0, _), (1, _), (4, _), (5, _), (6, _), (7, _)] [(35, .bool (mixB (stE es) t))] [(0, some _), (1, some _)] ⟨rfl, rfl, rfl, rfl, rfl, rfl, trivial⟩ ⟨rfl, rfl, trivial⟩ ?_ ?_
  · skip
    refine (Qm)<|(Qm) ?_
    refine e_nilCheck rfl rfl ?_
    refine (Qf 6)<|(QB (6 + t)) ?_
    refine e_load1 (i := 0) (Uu 4) rfl rfl rfl (arrv_get (by omega)) rfl ⟨[], trivial⟩ ?_
    refine e_as (show _ = Value.bool (stE es (6 + t)) from rfl) ?_
    refine (Qm) ?_
    refine e_case (fun hb0 => ?_) (fun hb0 => ?_)
    · skip
      refine (Qo)<|(Qo)<|(Qo)<|(Qo)<|(Qo)<|(Qo)<|(Qo)<|(Qo)<|(Qo)<|(QT)<|(Qm)<|(Qo)<|(Qo)<|(Qo)<|(Qo)<|(Qo)<|(Qo)<|(Qo)<|(Qo)<|(Qo)<|(QT)<|Qn ?_
      exact ⟨⟨rfl, rfl, rfl, rfl, rfl, rfl, trivial⟩, ⟨bool_fin (by rw [mixB, hb0] <;> rfl), trivial⟩, ⟨rfl, rfl, trivial⟩⟩
    · skip
      refine (Qy)<|(Qm)<|(Qy)<|(Qj 0)<|(Qy)<|(Q1 1)<|(Qy) ?_
      refine e_nilCheck rfl rfl ?_
      refine (Qy)<|(Qf 0)<|(Qy)<|(QA 0 0)<|(Qy)<|(Qi)<|(Qy) ?_
      refine e_load1 (i := 0) (Uu 4) rfl rfl rfl (arrv_get (by omega)) rfl ⟨[], trivial⟩ ?_
      refine e_as (show _ = Value.bool (stE es (ltr t 0)) by first | rfl | (rw [Nat.zero_add])) ?_
      refine (Qy)<|(Q0)<|(QF)<|(Qm) ?_
      refine e_case (fun hb1 => ?_) (fun hb1 => ?_)
      · skip
        refine (Qo)<|(Qo)<|(Qo)<|(Qo)<|(Qo)<|(Qo)<|(Qo)<|(Qo)<|(Qo)<|(QT)<|Qn ?_
        exact ⟨⟨rfl, rfl, rfl, rfl, rfl, rfl, trivial⟩, ⟨bool_fin (by rw [mixB, hb0, hb1] <;> rfl), trivial⟩, ⟨rfl, rfl, trivial⟩⟩
      · skip
        refine (Qy)<|(Qm)<|(Qy)<|(Qj 1)<|(Qy)<|(Q1 1)<|(Qy) ?_
        refine e_nilCheck rfl rfl ?_
        refine (Qy)<|(Qf 0)<|(Qy)<|(QA 3 1)<|(Qy)<|(QB (3 + ltr t 1))<|(Qy) ?_
        refine e_load1 (i := 0) (Uu 4) rfl rfl rfl (arrv_get (by omega)) rfl ⟨[], trivial⟩ ?_
        refine e_as (show _ = Value.bool (stE es (3 + ltr t 1)) from rfl) ?_
        refine (Qy)<|(Q0)<|(QF)<|Qn ?_
        exact ⟨⟨rfl, rfl, rfl, rfl, rfl, rfl, trivial⟩, ⟨bool_fin (by rw [mixB, hb0, hb1] <;> rfl), trivial⟩, ⟨rfl, rfl, trivial⟩⟩
  · simp only [catE]
    refine e_cond rfl ?_ ?_
    · intro hc0
      have hno : okT es w t = false := by rw [hc0] at hmb; simpa using hmb
      refine Qs<|Qp<|(Qa)<|Qn<|Qr ?_
      exact ⟨_, _, _, rfl, .tmp rfl, (by first | exact ⟨by rw [hno], fun _ => kst_tok h3 (by omega)⟩ | exact ⟨by rw [hno], fun h => by rw [hno] at h; cases h⟩), 0, rfl⟩
    · intro hc0
      have hno : okT es w t = true := by rw [hc0] at hmb; simpa using hmb
      refine Qk<|Qs<|Qp<|(Qm)<|(Qm) ?_
      refine e_nilCheck rfl rfl ?_
      refine (Qf 6)<|(QB (6 + t)) ?_
      refine e_st1 (i := 0) (Uz 4) rfl rfl rfl rfl (by omega) (.inl rfl) ?_
      refine Qn<|Qs<|Qp<|(Qa)<|Qn<|Qr ?_
      exact ⟨_, _, _, rfl, .tmp rfl, (by first | exact ⟨by rw [hno], fun _ => kst_tok h3 (by omega)⟩ | exact ⟨by rw [hno], fun h => by rw [hno] at h; cases h⟩), 0, rfl⟩
end Go.Proofs.YtejejmhbhegneaaDoor
namespace Go.Proofs.YtejejmhbhegneaaDoor
open Go Go.RowKit
variable {G : Mem}
set_option maxHeartbeats 2000000 in
theorem say_fn (r : Nat) (es : List Ev) (w x : Nat) (hw : w < 2) (h1 : 1 ≤ x) (h7 : x ≤ 7) : Fx Tryd.prog G [(⟨r, kst (stE es), 73⟩ : Blk)] 67 #[ptr r, ii w, ii x] (fun v l1 nw => nw = [] ∧ ∃ c', l1 = [⟨r, c', 73⟩] ∧ (v = Value.bool (okT es w x) ∧ ((okT es w x) = true → c' = kst (stE (es ++ [(w, x)]))))) := by
  refine fxWS (n := 35) Tryd.func67 rfl rfl (by simp) (argE [ptr r, ii w, ii x] 0) (argE_ok _) ?_
  refine Qs<|Qp<|(Qa)<|Qn<|Qs<|Qs<|Qp<|(Qm)<|Qn<|Qb<|Qs<|Qp<|(Qc)<|(Qa)<|Qn ?_
  refine e_cond rfl ?_ ?_
  · intro hc0
    obtain rfl : x = 1 := by have := of_decide_eq_true hc0; omega
    refine Qs<|QR ⟨[], 5, [], none⟩<|(Qm)<|(Qm)<|(Qm) ?_
    refine e_callWS 0 rfl rfl (Un 66) rfl (fun _ h => by cases h) (tell_fn (G := []) r es w 1 hw (.inl rfl)) ⟨_, _, rfl, fun _ => rfl⟩ rfl rfl fun v2_1 c2_1 hS2_1 => ?_
    obtain ⟨rfl, hq1⟩ := hS2_1
    refine (Qa)<|Qn<|Qr ?_
    exact ⟨_, _, _, rfl, .tmp rfl, (by first | exact ⟨by rw [okT_one]; rfl, fun h => hq1 (by rw [okT_one] at h; exact h)⟩ | exact ⟨by rw [okT_two hw, hml]; rfl, fun h => hq2 (by rw [okT_two hw, hml] at h; exact h)⟩ | exact ⟨by rw [okT_two hw, hml]; rfl, fun h => by rw [okT_two hw, hml] at h; cases h⟩ | exact ⟨rfl, fun _ => kst_tok (by decide) (by decide)⟩ | exact ⟨rfl, hq4⟩), 0, rfl⟩
  · intro hc0
    have hx1 : ¬ x = 1 := by have := of_decide_eq_false hc0; omega
    refine Qs<|Qp<|(Qc)<|(Qa)<|Qn ?_
    refine e_cond rfl ?_ ?_
    · intro hc1
      obtain rfl : x = 2 := by have := of_decide_eq_true hc1; omega
      refine Qs ?_
      cases hml : mlS (stE es) w
      · skip
        refine Qp<|(Qm)<|(Qm) ?_
        refine e_callV [_] rfl rfl (Un 68) ⟨⟨0, rfl⟩, trivial⟩ (dlock_fn (G := []) r (stE es) w hw) rfl rfl rfl ?_
        refine e_as (congrArg Value.bool hml) ?_
        refine (Qm)<|(Qo)<|(Qo)<|(Qo)<|(Qo)<|(QF)<|(Qa)<|Qn<|Qr ?_
        exact ⟨_, _, _, rfl, .tmp rfl, (by first | exact ⟨by rw [okT_one]; rfl, fun h => hq1 (by rw [okT_one] at h; exact h)⟩ | exact ⟨by rw [okT_two hw, hml]; rfl, fun h => hq2 (by rw [okT_two hw, hml] at h; exact h)⟩ | exact ⟨by rw [okT_two hw, hml]; rfl, fun h => by rw [okT_two hw, hml] at h; cases h⟩ | exact ⟨rfl, fun _ => kst_tok (by decide) (by decide)⟩ | exact ⟨rfl, hq4⟩), 0, rfl⟩
      · skip
        refine QR ⟨[], 5, [], none⟩<|(Qm)<|(Qm) ?_
        refine e_callV [_] rfl rfl (Un 68) ⟨⟨0, rfl⟩, trivial⟩ (dlock_fn (G := []) r (stE es) w hw) rfl rfl rfl ?_
        refine e_as (congrArg Value.bool hml) ?_
        refine (Qm)<|(Qy)<|(Qm)<|(Qy)<|(Qm)<|(Qy)<|(Qm)<|(Qy) ?_
        refine e_callWS 0 rfl rfl (Un 66) rfl (fun _ h => by cases h) (tell_fn (G := []) r es w 2 hw (.inr rfl)) ⟨_, _, rfl, fun _ => rfl⟩ rfl rfl fun v4_1 c4_1 hS4_1 => ?_
        obtain ⟨rfl, hq2⟩ := hS4_1
        refine (QT)<|(Qa)<|Qn<|Qr ?_
        exact ⟨_, _, _, rfl, .tmp rfl, (by first | exact ⟨by rw [okT_one]; rfl, fun h => hq1 (by rw [okT_one] at h; exact h)⟩ | exact ⟨by rw [okT_two hw, hml]; rfl, fun h => hq2 (by rw [okT_two hw, hml] at h; exact h)⟩ | exact ⟨by rw [okT_two hw, hml]; rfl, fun h => by rw [okT_two hw, hml] at h; cases h⟩ | exact ⟨rfl, fun _ => kst_tok (by decide) (by decide)⟩ | exact ⟨rfl, hq4⟩), 0, rfl⟩
    · intro hc1
      have hx2 : ¬ x = 2 := by have := of_decide_eq_false hc1; omega
      refine Qs<|Qp<|(Qc)<|(Qa)<|Qn ?_
      refine e_cond rfl ?_ ?_
      · intro hc2
        obtain rfl : x = 7 := by have := of_decide_eq_true hc2; omega
        refine Qs<|Qp<|(Qm)<|(Qm) ?_
        refine e_nilCheck rfl rfl ?_
        refine (Qf 6) ?_
        refine e_at (6 + 7) (Uu 71) (Uz 4) rfl rfl (by decide) (by omega) rfl ?_
        refine e_st1 (i := 0) (Uz 4) rfl rfl rfl rfl (by omega) (.inl rfl) ?_
        refine Qn<|Qs<|Qp<|(Qa)<|Qn<|Qr ?_
        exact ⟨_, _, _, rfl, .tmp rfl, (by first | exact ⟨by rw [okT_one]; rfl, fun h => hq1 (by rw [okT_one] at h; exact h)⟩ | exact ⟨by rw [okT_two hw, hml]; rfl, fun h => hq2 (by rw [okT_two hw, hml] at h; exact h)⟩ | exact ⟨by rw [okT_two hw, hml]; rfl, fun h => by rw [okT_two hw, hml] at h; cases h⟩ | exact ⟨rfl, fun _ => kst_tok (by decide) (by decide)⟩ | exact ⟨rfl, hq4⟩), 0, rfl⟩
      · intro hc2
        have hx7 : ¬ x = 7 := by have := of_decide_eq_false hc2; omega
        refine Qk<|Qs<|QR ⟨[], 5, [], none⟩<|(Qm)<|(Qm) ?_
        refine e_callWS 0 rfl rfl (Un 80) rfl (fun _ h => by cases h) (mix_fn (G := []) r es w x (by omega) (by omega)) ⟨_, _, rfl, fun _ => rfl⟩ rfl rfl fun v4_1 c4_1 hS4_1 => ?_
        obtain ⟨rfl, hq4⟩ := hS4_1
        refine (Qa)<|Qn<|Qr ?_
        exact ⟨_, _, _, rfl, .tmp rfl, (by first | exact ⟨by rw [okT_one]; rfl, fun h => hq1 (by rw [okT_one] at h; exact h)⟩ | exact ⟨by rw [okT_two hw, hml]; rfl, fun h => hq2 (by rw [okT_two hw, hml] at h; exact h)⟩ | exact ⟨by rw [okT_two hw, hml]; rfl, fun h => by rw [okT_two hw, hml] at h; cases h⟩ | exact ⟨rfl, fun _ => kst_tok (by decide) (by decide)⟩ | exact ⟨rfl, hq4⟩), 0, rfl⟩
end Go.Proofs.YtejejmhbhegneaaDoor
namespace Go.Proofs.YtejejmhbhegneaaDoor
open Go Go.RowKit
variable {G : Mem}
set_option maxHeartbeats 4000000 in
theorem turn_fn (r : Nat) (es : List Ev) (w : Nat) (hw : w < 2) (v : Value) (l : List Nat) (hv : Shows G 1 v l.length ((ci l).map iv)) (ht : ∀ x ∈ l, 1 ≤ x ∧ x ≤ 7) (hz : l.length ≤ 1000) : Fx Tryd.prog G [(⟨r, kst (stE es), 73⟩ : Blk)] 46 #[ptr r, ii w, v] (fun u l1 nw => nw = [] ∧ ∃ c', l1 = [⟨r, c', 73⟩] ∧ (u = Value.bool (okTR es w l) ∧ ((okTR es w l) = true → c' = kst (stE (es ++ rowE w (l ++ [0])))))) := by
  refine fxWS (n := 24) Tryd.func46 rfl rfl (by simp) (argE [ptr r, ii w, v] 0) (argE_ok _) ?_
  refine Qs<|Qp<|(Qa)<|Qn<|Qs<|Qs<|Qp<|(Qm)<|(QC hv)<|(Qm)<|Qn<|Qb ?_
  refine QzK [(0, _), (1, _), (9, _), (10, _)] [] (fun kk E m => ∃ (j : Nat), kk = l.length - j ∧ E = [(11, ii j)] ∧ m = [(0, some ⟨r, kst (stE (es ++ (rowE w l).take j)), 73⟩)] ∧ (j ≤ l.length) ∧ (∀ t, t < j → okT (es ++ (rowE w l).take t) w (l.getD t 0) = true)) ⟨0, rfl, rfl, rfl, by omega, fun t ht => absurd ht (Nat.not_lt_zero t)⟩ ⟨rfl, rfl, rfl, rfl, rfl, trivial⟩ ⟨(by rw [rowE_zero] <;> rfl), trivial⟩ ?_
  rintro kk E m ⟨j, rfl, rfl, rfl, hf0_0, hf0_1⟩
  simp only [catE, catL]
  refine Qs<|Qp<|(Ql)<|Qn<|Qs ?_
  refine e_cond rfl ?_ ?_
  · intro hc0
    have hc0 : j < l.length := by have := of_decide_eq_true hc0; omega
    refine Qk<|Qs<|Qb<|Qs<|Qp ?_
    refine e_atV hv (Uu 22) (Uz 3) rfl rfl (by omega) rfl ?_
    refine (QS) ?_
    refine e_loadV hv seenG (Uu 3) rfl rfl (ci_at (by omega)) rfl ?_
    refine e_gen_i fun x hx => ?_
    refine (Qa)<|Qn ?_
    have hx9 := ht (l.getD j 0) (by rw [List.getD_eq_getElem?_getD, List.getElem?_eq_getElem (by omega)]; exact List.getElem_mem _)
    rw [← hx] at hx9
    refine Qs<|QR ⟨[], 5, [], none⟩<|(Qm)<|(Qm)<|(Qm) ?_
    refine e_callWS 0 rfl rfl (Un 67) rfl (fun _ h => by cases h) (say_fn (G := []) r (es ++ (rowE w l).take j) w x hw hx9.1 hx9.2) ⟨_, _, rfl, fun _ => rfl⟩ rfl rfl fun v2_1 c2_1 hS2_1 => ?_
    obtain ⟨rfl, hq1⟩ := hS2_1
    refine (Q0)<|Qn ?_
    refine e_cond rfl ?_ ?_
    · intro hc1
      have hrow : okTR es w l = false := okTR_bad (show j < l.length by omega) (by rw [← hx]; simpa using hc1)
      refine Qs<|Qp<|(Qa)<|Qn<|Qr ?_
      exact ⟨_, _, _, rfl, .tmp rfl, (by first | exact ⟨by rw [hrow], fun h => by rw [hrow] at h; cases h⟩ | (rw [hz0, rowE_all, okTR_fin (fun t h => hf0_1 t (by omega)), okT_zero hw]; exact ⟨rfl, fun _ => kst_rowZ⟩)), 0, rfl⟩
    · intro hc1
      have hok0 : okT (es ++ (rowE w l).take j) w x = true := by simpa using hc1
      have hok : okT (es ++ (rowE w l).take j) w (l.getD j 0) = true := by rw [← hx]; exact hok0
      obtain rfl := hq1 hok0
      refine Qk<|Qp<|(Q2 1)<|(Qm)<|Qn ?_
      refine QzL ⟨j + 1, rfl, rfl, rfl, by omega, fun t ht => by rcases (by omega : t < j ∨ t = j) with h | rfl; exact hf0_1 t h; exact hok⟩ ⟨rfl, rfl, rfl, rfl, rfl, trivial⟩ ⟨(by rw [rowE_next (by omega), ← hx] <;> rfl), trivial⟩ ?_
      omega
  · intro hc0
    have hc0 := of_decide_eq_false hc0
    have hz0 : j = l.length := by omega
    refine Qe<|Qs<|Qp<|(Qm)<|(Qm) ?_
    refine e_callV [_] rfl rfl (Un 68) ⟨⟨0, rfl⟩, trivial⟩ (dlock_fn (G := []) r _ w hw) rfl rfl rfl ?_
    refine (Qa)<|Qn<|Qr ?_
    exact ⟨_, _, _, rfl, .tmp rfl, (by first | exact ⟨by rw [hrow], fun h => by rw [hrow] at h; cases h⟩ | (rw [hz0, rowE_all, okTR_fin (fun t h => hf0_1 t (by omega)), okT_zero hw]; exact ⟨rfl, fun _ => kst_rowZ⟩)), 0, rfl⟩
end Go.Proofs.YtejejmhbhegneaaDoor
namespace Go.Proofs.YtejejmhbhegneaaDoor
open Go Go.RowKit
variable {G : Mem}
set_option maxHeartbeats 8000000 in
theorem inform_fn (base : List Nat) (late : Bool) (vp v0 v1 vt : Value) (tvs : List Value) (q0 q1 : List Nat) (us : List (List Nat)) (hvt : Shows G 1 vt tvs.length tvs) (hLI : ShowsLI G (v0 :: v1 :: tvs) (ci q0 :: ci q1 :: us.map ci)) (htk : ∀ q ∈ q0 :: q1 :: us, q.length ≤ 6 ∧ ∀ x ∈ q, 1 ≤ x ∧ x ≤ 7) (hn5 : us.length ≤ 5) : Fn Tryd.prog G 34 #[.agg (cells 6 [pV (sv base), pV (.bool late), pV vp, pV v0, pV v1, pV vt])] (.bool (decide (fin3 (evL late q0 q1 us) = 0))) := by
  have hT := li_tail (li_tail hLI)
  have hv0 := li_head hLI
  have hv1 := li_head (li_tail hLI)
  have hvq := pre_shows hv0 hv1
  have htl : tvs.length = us.length := by have := hT.1; rwa [List.length_map] at this
  obtain ⟨L, hL⟩ : ∃ L, L = evL late q0 q1 us := ⟨_, rfl⟩
  have hLl : L.length = 2 + us.length := by rw [hL]; exact evL_len
  have hLa : ∀ a, a < 2 → L.getD a [] = rowE a (qq q0 q1 a) := fun a ha => by rw [hL]; exact evL_pre ha
  have hLt : ∀ i, i < us.length → L.getD (2 + i) [] = rowE (whoT late i) (us.getD i [] ++ [0]) := fun i hi => by rw [hL]; exact evL_turn hi
  rw [← hL]
  have hqt : ∀ a, (qq q0 q1 a).length ≤ 6 ∧ ∀ x ∈ qq q0 q1 a, 1 ≤ x ∧ x ≤ 7 := fun a => by unfold qq; split; exact htk q0 (by simp); exact htk q1 (by simp)
  have hut : ∀ i, i < us.length → (us.getD i []).length ≤ 6 ∧ ∀ x ∈ us.getD i [], 1 ≤ x ∧ x ≤ 7 := fun i hi => htk _ (by rw [List.getD_eq_getElem?_getD, List.getElem?_eq_getElem hi]; simp)
  refine Qf1 Tryd.func34 ?_
  refine Qs<|Qp<|(Qh 0) fun r1=>(Qa)<|Qn<|Qs<|Qp<|(QH 1) fun r2=>Qn<|Qs<|Qs<|Qp<|(Qf 3) ?_
  refine e_ldP (i := 0) (Uu 23) rfl (Uz 23) rfl rfl (by decide) rfl ⟨[], trivial⟩ ?_
  refine e_as (show _ = Value.agg (arrv 2 (fun t => vq v0 v1 t)) from congrArg Value.agg (arrv_congr fun j hj => by have h9 : j = 0 ∨ j = 1 := (by omega); rcases h9 with rfl | rfl <;> rfl)) ?_
  refine (Qm)<|Qn<|Qb ?_
  refine QzK [(1, _), (3, _), (10, _)] [(0, _)] (fun kk E m => ∃ (a : Nat), kk = 2 - a ∧ E = [(11, ii a)] ∧ m = [(1, some ⟨r2, kst (stE (uptoE L a 0)), 73⟩)] ∧ (a ≤ 2) ∧ (∀ s t, s < a → t < (L.getD s []).length → okAt L s t = true)) ⟨0, rfl, rfl, rfl, by omega, fun _ _ h => absurd h (Nat.not_lt_zero _)⟩ ⟨rfl, rfl, rfl, rfl, trivial⟩ ⟨(by rw [uptoE_zero, show (kst (stE []) : Array Value) = _ from arrv_congr fun j _ => by rw [stE_nil]] <;> rfl), rfl, trivial⟩ ?_
  rintro kk E m ⟨a, rfl, rfl, rfl, hf0_0, hf0_1⟩
  simp only [catE, catL]
  refine Qs<|Qp<|(Ql)<|Qn<|Qs ?_
  refine e_cond rfl ?_ ?_
  · intro hc0
    have hc0 : a < 2 := by have := of_decide_eq_true hc0; omega
    refine Qk<|Qs<|Qb<|Qs<|Qp<|(Qm) ?_
    refine e_idxP (Uu 23) (Uu 22) rfl (Uz 22) rfl rfl (by omega) rfl ?_
    refine (Qa)<|(Qa)<|Qn<|Qs<|QR ⟨[], 5, [], none⟩<|(Qm)<|(Qm) ?_
    refine e_callWS 1 rfl rfl (Un 45) rfl (fun z hz => .inl hz) (ahead_fn (G := G) r2 (uptoE L a 0) a (by omega) (vq v0 v1 a) (qq q0 q1 a) (hvq a (by omega)) (hqt a).2 (by have := (hqt a).1; omega)) ⟨_, _, rfl, fun _ => rfl⟩ rfl rfl fun v2_1 c2_1 hS2_1 => ?_
    obtain ⟨rfl, hq1⟩ := hS2_1
    refine (Q0)<|Qn ?_
    refine e_cond rfl ?_ ?_
    · intro hc1
      have hbad : okPR (uptoE L a 0) a (qq q0 q1 a) = false := by simpa using hc1
      rw [pre_bad (by omega) (by omega) (hLa a (by omega)) hbad]
      refine Qs<|Qp<|(Qa)<|Qn<|Qr ?_
      first | rw [fin3_ok (fun s t hs ht => by by_cases h2 : s < 2; exact hf0_1 s t (by omega) ht; (obtain ⟨s, rfl⟩ : ∃ r, s = 2 + r := ⟨s - 2, by omega⟩); exact hf1_1 s t (by omega) ht)] | skip
      exact ⟨_, rfl, .tmp rfl⟩
    · intro hc1
      have hok : okPR (uptoE L a 0) a (qq q0 q1 a) = true := by simpa using hc1
      obtain rfl := hq1 hok
      refine Qk<|Qp<|(Q2 1)<|(Qm)<|Qn ?_
      refine QzL ⟨a + 1, rfl, rfl, rfl, by omega, fun s t hs ht => by by_cases e : s = a; (subst e; exact pre_ok (by omega) (hLa s (by omega)) hok t ht); exact hf0_1 s t (by omega) ht⟩ ⟨rfl, rfl, rfl, rfl, trivial⟩ ⟨(by rw [← row_next (by omega), hLa a (by omega)] <;> rfl), rfl, trivial⟩ ?_
      omega
  · intro hc0
    have hc0 := of_decide_eq_false hc0
    have hz0 : a = 2 := by omega
    refine Qe<|Qs<|Qp<|(Qa)<|Qn<|Qs<|Qs<|Qp<|(Qf 1)<|(QV 1 0)<|Qn ?_
    refine s_join [(1, _), (3, _), (10, _), (11, _), (12, _), (20, _), (21, _)] [(6, ii (whoT late 0))] [(0, some _), (1, some ⟨r2, kst (stE (uptoE L a 0)), 73⟩)] ⟨rfl, rfl, rfl, rfl, rfl, rfl, rfl, trivial⟩ ⟨rfl, rfl, trivial⟩ ?_ ?_
    · skip
      refine e_cond rfl ?_ ?_
      · intro hc2
        have hcL := hc2
        refine Qp<|(Qa)<|Qn ?_
        exact ⟨⟨rfl, rfl, rfl, rfl, rfl, rfl, rfl, trivial⟩, ⟨(by rw [whoT, hcL] <;> rfl), trivial⟩, ⟨rfl, rfl, trivial⟩⟩
      · intro hc2
        have hcL := hc2
        refine Qk ?_
        exact ⟨⟨rfl, rfl, rfl, rfl, rfl, rfl, rfl, trivial⟩, ⟨(by rw [whoT, hcL] <;> rfl), trivial⟩, ⟨rfl, rfl, trivial⟩⟩
    · simp only [catE]
      refine Qs<|Qs<|Qp<|(Qf 5)<|(QV 5 0)<|(QC hvt)<|(Qm)<|Qn<|Qb ?_
      refine QzK [(1, _), (3, _), (10, _), (11, _), (23, _), (24, _)] [(0, _)] (fun kk E m => ∃ (i : Nat), kk = tvs.length - i ∧ E = [(6, ii (whoT late i)), (25, ii i)] ∧ m = [(1, some ⟨r2, kst (stE (uptoE L (2 + i) 0)), 73⟩)] ∧ (i ≤ tvs.length) ∧ (∀ s t, s < i → t < (L.getD (2 + s) []).length → okAt L (2 + s) t = true)) ⟨0, rfl, rfl, rfl, by omega, fun _ _ h => absurd h (Nat.not_lt_zero _)⟩ ⟨rfl, rfl, rfl, rfl, rfl, rfl, rfl, rfl, trivial⟩ ⟨(by rw [hz0] <;> rfl), rfl, trivial⟩ ?_
      rintro kk E m ⟨i, rfl, rfl, rfl, hf1_0, hf1_1⟩
      simp only [catE, catL]
      have hwl := whoT_lt late i
      refine Qs<|Qp<|(Ql)<|Qn<|Qs ?_
      refine e_cond rfl ?_ ?_
      · intro hc3
        have hc3 : i < tvs.length := by have := of_decide_eq_true hc3; omega
        refine Qk<|Qs<|Qb<|Qs<|Qp ?_
        refine e_atV hvt (Uu 24) (Uz 22) rfl rfl (by omega) rfl ?_
        refine (QS) ?_
        refine e_loadV hvt seenG (Uu 22) rfl rfl (get_getD (by omega)) rfl ?_
        refine (Qa)<|Qn<|Qs<|Qs<|QR ⟨[], 5, [], none⟩<|(Qm)<|(Qm) ?_
        refine e_callWS 1 rfl rfl (Un 46) rfl (fun z hz => .inl hz) (turn_fn (G := G) r2 (uptoE L (2 + i) 0) (whoT late i) hwl (tvs.getD i undef) (us.getD i []) (li_at hT (by omega)) (hut i (by omega)).2 (by have := (hut i (by omega)).1; omega)) ⟨_, _, rfl, fun _ => rfl⟩ rfl rfl fun v4_1 c4_1 hS4_1 => ?_
        obtain ⟨rfl, hq2⟩ := hS4_1
        refine (Q0)<|Qn ?_
        refine e_cond rfl ?_ ?_
        · intro hc4
          have hbad : okTR (uptoE L (2 + i) 0) (whoT late i) (us.getD i []) = false := by simpa using hc4
          rw [turn_bad (by omega) (hLt i (by omega)) hbad]
          refine Qs<|Qp<|(Qa)<|Qn<|Qr ?_
          first | rw [fin3_ok (fun s t hs ht => by by_cases h2 : s < 2; exact hf0_1 s t (by omega) ht; (obtain ⟨s, rfl⟩ : ∃ r, s = 2 + r := ⟨s - 2, by omega⟩); exact hf1_1 s t (by omega) ht)] | skip
          exact ⟨_, rfl, .tmp rfl⟩
        · intro hc4
          have hok : okTR (uptoE L (2 + i) 0) (whoT late i) (us.getD i []) = true := by simpa using hc4
          obtain rfl := hq2 hok
          refine Qk<|Qp<|(Qm) ?_
          refine e_sub_in (p := 1) rfl rfl rfl (by omega) (by omega) ?_
          refine (Qa)<|Qn<|Qp<|(Q2 1)<|(Qm)<|Qn ?_
          refine QzL ⟨i + 1, rfl, rfl, rfl, by omega, fun s t hs ht => by by_cases e : s = i; (subst e; exact turn_ok (hLt s (by omega)) hok t ht); exact hf1_1 s t (by omega) ht⟩ ⟨(by rw [← whoT_next] <;> rfl), rfl, rfl, rfl, rfl, rfl, rfl, rfl, trivial⟩ ⟨(by rw [show 2 + (i + 1) = 2 + i + 1 by omega, ← row_next (by omega), hLt i (by omega)] <;> rfl), rfl, trivial⟩ ?_
          omega
      · intro hc3
        have hc3 := of_decide_eq_false hc3
        have hz1 : i = tvs.length := by omega
        refine Qe<|Qs<|Qp<|(Qa)<|Qn<|Qr ?_
        first | rw [fin3_ok (fun s t hs ht => by by_cases h2 : s < 2; exact hf0_1 s t (by omega) ht; (obtain ⟨s, rfl⟩ : ∃ r, s = 2 + r := ⟨s - 2, by omega⟩); exact hf1_1 s t (by omega) ht)] | skip
        exact ⟨_, rfl, .tmp rfl⟩
end Go.Proofs.YtejejmhbhegneaaDoor
namespace Go.Proofs.YtejejmhbhegneaaDoor
open Go Go.RowKit
variable {G : Mem}
set_option maxHeartbeats 400000 in
theorem chk_size (base : List Nat) (late : Bool) (vp v0 v1 vt : Value) (tvs : List Value) (p0 p1 : List Int) (ts : List (List Int)) (hvt : Shows G 1 vt tvs.length tvs) (hLI : ShowsLI G (v0 :: v1 :: tvs) (p0 :: p1 :: ts)) (h : ts.length = 0 ∨ 5 < ts.length) : Fn Tryd.prog G 17 #[.agg (cells 6 [pV (sv base), pV (.bool late), pV vp, pV v0, pV v1, pV vt])] (ii 1) := by
  have hT := li_tail (li_tail hLI)
  have htl : tvs.length = ts.length := hT.1
  refine Qf1 Tryd.func17 ?_
  refine Qs<|Qp<|(Qh 0) fun r1=>(Qa)<|Qn<|Qs<|Qs<|Qp ?_
  refine e_join [(0, _), (1, _), (2, _)] [(14, .bool (decide ((tvs.length : Int) < 1) || decide ((5 : Int) < (tvs.length : Int))))] [(0, some _)] ⟨rfl, rfl, rfl, trivial⟩ ⟨rfl, trivial⟩ ?_ ?_
  · skip
    refine (Qf 5)<|(QV 5 0)<|(QC hvt)<|(Ql)<|(Qm) ?_
    refine e_case (fun hb0 => ?_) (fun hb0 => ?_)
    · skip
      refine (Qo)<|(Qo)<|(Qo)<|(Qo)<|(QT)<|Qn ?_
      exact ⟨⟨rfl, rfl, rfl, trivial⟩, ⟨bool_fin (by rw [hb0] <;> rfl), trivial⟩, ⟨rfl, trivial⟩⟩
    · skip
      refine (Qy)<|(Qf 5)<|(Qy)<|(QV 5 0)<|(Qy)<|(QC hvt)<|(Qy)<|(QG)<|(QF)<|Qn ?_
      exact ⟨⟨rfl, rfl, rfl, trivial⟩, ⟨bool_fin (by rw [hb0] <;> rfl), trivial⟩, ⟨rfl, trivial⟩⟩
  · simp only [catE]
    refine e_cond rfl ?_ ?_
    · intro hc0
      refine Qs<|Qp<|(Qa)<|Qn<|Qr ?_
      exact ⟨_, rfl, .tmp rfl⟩
    · intro hc0
      exact absurd hc0 (by rcases h with h | h; (rw [decide_eq_true (by omega)]; simp); (rw [decide_eq_true (p := (5 : Int) < _) (by omega)]; simp))
set_option maxHeartbeats 2000000 in
theorem chk_pre (base : List Nat) (late : Bool) (vp v0 v1 vt : Value) (tvs : List Value) (p0 p1 : List Int) (ts : List (List Int)) (hvt : Shows G 1 vt tvs.length tvs) (hLI : ShowsLI G (v0 :: v1 :: tvs) (p0 :: p1 :: ts)) (h1 : 1 ≤ ts.length) (h5 : ts.length ≤ 5) (f : Nat) (hf : first1 [p0, p1] = f) (hf0 : f ≠ 0) : Fn Tryd.prog G 17 #[.agg (cells 6 [pV (sv base), pV (.bool late), pV vp, pV v0, pV v1, pV vt])] (ii f) := by
  have hT := li_tail (li_tail hLI)
  have htl : tvs.length = ts.length := hT.1
  refine Qf1 Tryd.func17 ?_
  refine Qs<|Qp<|(Qh 0) fun r1=>(Qa)<|Qn<|Qs<|Qs<|Qp ?_
  refine e_join [(0, _), (1, _), (2, _)] [(14, .bool (decide ((tvs.length : Int) < 1) || decide ((5 : Int) < (tvs.length : Int))))] [(0, some _)] ⟨rfl, rfl, rfl, trivial⟩ ⟨rfl, trivial⟩ ?_ ?_
  · skip
    refine (Qf 5)<|(QV 5 0)<|(QC hvt)<|(Ql)<|(Qm) ?_
    refine e_case (fun hb0 => ?_) (fun hb0 => ?_)
    · skip
      refine (Qo)<|(Qo)<|(Qo)<|(Qo)<|(QT)<|Qn ?_
      exact ⟨⟨rfl, rfl, rfl, trivial⟩, ⟨bool_fin (by rw [hb0] <;> rfl), trivial⟩, ⟨rfl, trivial⟩⟩
    · skip
      refine (Qy)<|(Qf 5)<|(Qy)<|(QV 5 0)<|(Qy)<|(QC hvt)<|(Qy)<|(QG)<|(QF)<|Qn ?_
      exact ⟨⟨rfl, rfl, rfl, trivial⟩, ⟨bool_fin (by rw [hb0] <;> rfl), trivial⟩, ⟨rfl, trivial⟩⟩
  · simp only [catE]
    refine e_cond rfl ?_ ?_
    · intro hc0
      exact absurd hc0 (by rw [decide_eq_false (by omega), decide_eq_false (by omega)]; decide)
    · intro hc0
      refine Qk<|Qs<|Qs<|Qp<|(Qf 3) ?_
      refine e_sliceA 0 2 (Uu 23) (Uz 22) rfl rfl rfl rfl rfl (by omega) (by omega) (by omega) rfl ?_
      refine e_callS rfl rfl (Un 33) (seen_app (seen1 0 rfl ⟨[], trivial⟩) seenG) (chkl_fn (G := [(⟨r1, (cells 6 [pV (sv base), pV (.bool late), pV vp, pV v0, pV v1, pV vt]), 26⟩ : Blk)] ++ G) _ [v0, v1] [p0, p1] ((pre_two (r := r1) (t := 26)).mono (fun x hx => List.mem_append_left _ hx)) (li_mono (li_two hLI) (fun x hx => List.mem_append_right _ hx)) (by simp)) rfl rfl ?_
      refine e_as (congrArg ii hf) ?_
      refine (Qa)<|Qn<|Qs<|Qp<|(Qm)<|(QN)<|(Qat)<|Qn<|(Qct)<|Qs<|Qp<|(Qm)<|(Qa)<|Qn<|Qr ?_
      exact ⟨_, rfl, .tmp rfl⟩
set_option maxHeartbeats 2000000 in
theorem chk_turns (base : List Nat) (late : Bool) (vp v0 v1 vt : Value) (tvs : List Value) (p0 p1 : List Int) (ts : List (List Int)) (hvt : Shows G 1 vt tvs.length tvs) (hLI : ShowsLI G (v0 :: v1 :: tvs) (p0 :: p1 :: ts)) (h1 : 1 ≤ ts.length) (h5 : ts.length ≤ 5) (hp : first1 [p0, p1] = 0) (f : Nat) (hf : first1 ts = f) (hf0 : f ≠ 0) : Fn Tryd.prog G 17 #[.agg (cells 6 [pV (sv base), pV (.bool late), pV vp, pV v0, pV v1, pV vt])] (ii f) := by
  have hT := li_tail (li_tail hLI)
  have htl : tvs.length = ts.length := hT.1
  refine Qf1 Tryd.func17 ?_
  refine Qs<|Qp<|(Qh 0) fun r1=>(Qa)<|Qn<|Qs<|Qs<|Qp ?_
  refine e_join [(0, _), (1, _), (2, _)] [(14, .bool (decide ((tvs.length : Int) < 1) || decide ((5 : Int) < (tvs.length : Int))))] [(0, some _)] ⟨rfl, rfl, rfl, trivial⟩ ⟨rfl, trivial⟩ ?_ ?_
  · skip
    refine (Qf 5)<|(QV 5 0)<|(QC hvt)<|(Ql)<|(Qm) ?_
    refine e_case (fun hb0 => ?_) (fun hb0 => ?_)
    · skip
      refine (Qo)<|(Qo)<|(Qo)<|(Qo)<|(QT)<|Qn ?_
      exact ⟨⟨rfl, rfl, rfl, trivial⟩, ⟨bool_fin (by rw [hb0] <;> rfl), trivial⟩, ⟨rfl, trivial⟩⟩
    · skip
      refine (Qy)<|(Qf 5)<|(Qy)<|(QV 5 0)<|(Qy)<|(QC hvt)<|(Qy)<|(QG)<|(QF)<|Qn ?_
      exact ⟨⟨rfl, rfl, rfl, trivial⟩, ⟨bool_fin (by rw [hb0] <;> rfl), trivial⟩, ⟨rfl, trivial⟩⟩
  · simp only [catE]
    refine e_cond rfl ?_ ?_
    · intro hc0
      exact absurd hc0 (by rw [decide_eq_false (by omega), decide_eq_false (by omega)]; decide)
    · intro hc0
      refine Qk<|Qs<|Qs<|Qp<|(Qf 3) ?_
      refine e_sliceA 0 2 (Uu 23) (Uz 22) rfl rfl rfl rfl rfl (by omega) (by omega) (by omega) rfl ?_
      refine e_callS rfl rfl (Un 33) (seen_app (seen1 0 rfl ⟨[], trivial⟩) seenG) (chkl_fn (G := [(⟨r1, (cells 6 [pV (sv base), pV (.bool late), pV vp, pV v0, pV v1, pV vt]), 26⟩ : Blk)] ++ G) _ [v0, v1] [p0, p1] ((pre_two (r := r1) (t := 26)).mono (fun x hx => List.mem_append_left _ hx)) (li_mono (li_two hLI) (fun x hx => List.mem_append_right _ hx)) (by simp)) rfl rfl ?_
      refine e_as (congrArg ii hp) ?_
      refine (Qa)<|Qn<|Qs<|Qp<|(Qm)<|(QN) ?_
      refine e_as (congrArg Value.bool (decide_eq_false (by decide))) ?_
      refine Qn<|(Qcf)<|Qk<|Qs<|Qs<|Qp<|(Qf 5)<|(QV 5 0) ?_
      refine e_call rfl (Un 33) (chkl_fn vt tvs ts hvt hT (by omega)) rfl rfl ?_
      refine e_as (congrArg ii hf) ?_
      refine (Qa)<|Qn<|Qs<|Qp<|(Qm)<|(QN)<|(Qat)<|Qn<|(Qct)<|Qs<|Qp<|(Qm)<|(Qa)<|Qn<|Qr ?_
      exact ⟨_, rfl, .tmp rfl⟩
set_option maxHeartbeats 2000000 in
theorem chk_form (base : List Nat) (late : Bool) (vp v0 v1 vt : Value) (tvs : List Value) (p0 p1 : List Int) (ts : List (List Int)) (hvt : Shows G 1 vt tvs.length tvs) (hLI : ShowsLI G (v0 :: v1 :: tvs) (p0 :: p1 :: ts)) (h1 : 1 ≤ ts.length) (h5 : ts.length ≤ 5) (hp : first1 [p0, p1] = 0) (hf : first1 ts = 0) (f : Nat) (hf3 : f = 0 ∨ f = 3) (hF : Fn Tryd.prog G 34 #[.agg (cells 6 [pV (sv base), pV (.bool late), pV vp, pV v0, pV v1, pV vt])] (.bool (decide (f = 0)))) : Fn Tryd.prog G 17 #[.agg (cells 6 [pV (sv base), pV (.bool late), pV vp, pV v0, pV v1, pV vt])] (ii f) := by
  have hT := li_tail (li_tail hLI)
  have htl : tvs.length = ts.length := hT.1
  refine Qf1 Tryd.func17 ?_
  refine Qs<|Qp<|(Qh 0) fun r1=>(Qa)<|Qn<|Qs<|Qs<|Qp ?_
  refine e_join [(0, _), (1, _), (2, _)] [(14, .bool (decide ((tvs.length : Int) < 1) || decide ((5 : Int) < (tvs.length : Int))))] [(0, some _)] ⟨rfl, rfl, rfl, trivial⟩ ⟨rfl, trivial⟩ ?_ ?_
  · skip
    refine (Qf 5)<|(QV 5 0)<|(QC hvt)<|(Ql)<|(Qm) ?_
    refine e_case (fun hb0 => ?_) (fun hb0 => ?_)
    · skip
      refine (Qo)<|(Qo)<|(Qo)<|(Qo)<|(QT)<|Qn ?_
      exact ⟨⟨rfl, rfl, rfl, trivial⟩, ⟨bool_fin (by rw [hb0] <;> rfl), trivial⟩, ⟨rfl, trivial⟩⟩
    · skip
      refine (Qy)<|(Qf 5)<|(Qy)<|(QV 5 0)<|(Qy)<|(QC hvt)<|(Qy)<|(QG)<|(QF)<|Qn ?_
      exact ⟨⟨rfl, rfl, rfl, trivial⟩, ⟨bool_fin (by rw [hb0] <;> rfl), trivial⟩, ⟨rfl, trivial⟩⟩
  · simp only [catE]
    refine e_cond rfl ?_ ?_
    · intro hc0
      exact absurd hc0 (by rw [decide_eq_false (by omega), decide_eq_false (by omega)]; decide)
    · intro hc0
      refine Qk<|Qs<|Qs<|Qp<|(Qf 3) ?_
      refine e_sliceA 0 2 (Uu 23) (Uz 22) rfl rfl rfl rfl rfl (by omega) (by omega) (by omega) rfl ?_
      refine e_callS rfl rfl (Un 33) (seen_app (seen1 0 rfl ⟨[], trivial⟩) seenG) (chkl_fn (G := [(⟨r1, (cells 6 [pV (sv base), pV (.bool late), pV vp, pV v0, pV v1, pV vt]), 26⟩ : Blk)] ++ G) _ [v0, v1] [p0, p1] ((pre_two (r := r1) (t := 26)).mono (fun x hx => List.mem_append_left _ hx)) (li_mono (li_two hLI) (fun x hx => List.mem_append_right _ hx)) (by simp)) rfl rfl ?_
      refine e_as (congrArg ii hp) ?_
      refine (Qa)<|Qn<|Qs<|Qp<|(Qm)<|(QN) ?_
      refine e_as (congrArg Value.bool (decide_eq_false (by decide))) ?_
      refine Qn<|(Qcf)<|Qk<|Qs<|Qs<|Qp<|(Qf 5)<|(QV 5 0) ?_
      refine e_call rfl (Un 33) (chkl_fn vt tvs ts hvt hT (by omega)) rfl rfl ?_
      refine e_as (congrArg ii hf) ?_
      refine (Qa)<|Qn<|Qs<|Qp<|(Qm)<|(QN) ?_
      refine e_as (congrArg Value.bool (decide_eq_false (by decide))) ?_
      refine Qn<|(Qcf)<|Qk<|Qs<|Qs<|Qp<|(QD 0) ?_
      refine e_call rfl (Un 34) hF rfl rfl ?_
      refine (Q0)<|Qn ?_
      refine e_cond rfl ?_ ?_
      · intro hc3
        obtain rfl : f = 3 := by have : ¬ f = 0 := (by simpa using hc3); omega
        refine Qs<|Qp<|(Qa)<|Qn<|Qr ?_
        exact ⟨_, rfl, .tmp rfl⟩
      · intro hc3
        obtain rfl : f = 0 := by simpa using hc3
        refine Qk<|Qs<|Qp<|(Qa)<|Qn<|Qr ?_
        exact ⟨_, rfl, .tmp rfl⟩
end Go.Proofs.YtejejmhbhegneaaDoor
namespace Go.Proofs.YtejejmhbhegneaaDoor
open Go Go.RowKit
theorem chk_all {G : Mem} (base : List Nat) (late : Bool) (vp v0 v1 vt : Value) (tvs : List Value) (p0 p1 : List Int) (ts : List (List Int)) (hvt : Shows G 1 vt tvs.length tvs) (hLI : ShowsLI G (v0 :: v1 :: tvs) (p0 :: p1 :: ts)) : Fn Tryd.prog G 17 #[.agg (cells 6 [pV (sv base), pV (.bool late), pV vp, pV v0, pV v1, pV vt])] (ii (pfault late p0 p1 ts)) := by
  by_cases h0 : ts.length = 0 ∨ 5 < ts.length
  · rw [pfault, if_pos h0]; exact chk_size base late vp v0 v1 vt tvs p0 p1 ts hvt hLI h0
  by_cases hp : first1 [p0, p1] = 0
  · by_cases hf : first1 ts = 0
    · have h00 : first1 (p0 :: p1 :: ts) = 0 := by rw [first1_split, if_pos hp, hf]
      have hz := first1_zero h00
      have e0 := wrong_no (hz p0 (by simp)).2
      have e1 := wrong_no (hz p1 (by simp)).2
      have et : ts = (ts.map fun t => t.map Int.toNat).map ci := by
        rw [List.map_map]
        conv => lhs; rw [← List.map_id ts]
        exact List.map_congr_left fun t ht => wrong_no (hz t (by simp [ht])).2
      rw [pfault, if_neg h0, if_pos h00]
      refine chk_form base late vp v0 v1 vt tvs p0 p1 ts hvt hLI (by omega) (by omega) hp hf _ (by unfold fin3; split <;> simp) ?_
      have hall : first1 ((p0.map Int.toNat :: p1.map Int.toNat :: (ts.map fun t => t.map Int.toNat)).map ci) = 0 := by
        rw [List.map_cons, List.map_cons, ← e0, ← e1, ← et]; exact h00
      exact inform_fn base late vp v0 v1 vt tvs (p0.map Int.toNat) (p1.map Int.toNat) (ts.map fun t => t.map Int.toNat) hvt (by rw [← e0, ← e1, ← et]; exact hLI) (first1_toks hall) (by rw [List.length_map]; omega)
    · rw [pfault, if_neg h0, first1_split, if_pos hp, if_neg hf]
      exact chk_turns base late vp v0 v1 vt tvs p0 p1 ts hvt hLI (by omega) (by omega) hp _ rfl hf
  · rw [pfault, if_neg h0, first1_split, if_neg hp, if_neg hp]
    exact chk_pre base late vp v0 v1 vt tvs p0 p1 ts hvt hLI (by omega) (by omega) _ rfl hp
variable {G : Mem}
end Go.Proofs.YtejejmhbhegneaaDoor
namespace Go.Proofs.YtejejmhbhegneaaDoor
open Go Go.RowKit
variable {G : Mem}
set_option maxHeartbeats 400000 in
theorem picked_fn (z : Int) (m : Nat) (hm : 0 < m) (hm2 : m < 4294967296) : Fn Tryd.prog G 18 #[.int .i64 z, ii m] (ii (pkn z m)) := by
  have htm := tmod_bd z hm
  refine Qf1 Tryd.func18 ?_
  refine Qs<|Qp<|(Qa)<|Qn<|Qs<|Qp<|(Qm)<|(Qm) ?_
  refine e_rem_z rfl rfl rfl (by omega) ?_
  refine (Qa)<|Qn<|Qs<|Qs<|Qp<|(Qm)<|(Ql)<|Qn ?_
  refine e_cond rfl ?_ ?_
  · intro hc0
    have hc0 := of_decide_eq_true hc0
    refine Qp<|(Qm)<|(Qm) ?_
    refine e_add_z rfl rfl rfl (by omega) (by omega) ?_
    refine e_as (congrArg (Value.int .i64) (pkn_neg hm hc0)) ?_
    refine (Qa)<|Qn<|Qs<|Qp<|(Qm)<|(Qa)<|Qn<|Qr ?_
    exact ⟨_, rfl, .tmp rfl⟩
  · intro hc0
    have hc0 := of_decide_eq_false hc0
    rw [ii, ← pkn_pos hm hc0]
    refine Qk<|Qs<|Qp<|(Qm)<|(Qa)<|Qn<|Qr ?_
    exact ⟨_, rfl, .tmp rfl⟩
set_option maxHeartbeats 2000000 in
theorem places_fn (t k : Nat) (ht : t ≤ 10) (hm : k ≤ 15) : Fx Tryd.prog G [] 31 #[ii t, ii k] (fun v l1 nw => l1 = [] ∧ ∃ v', v = v' ∧ OwnS 3 1 v' (plc t k).length ((plc t k).map (fun x : Nat => ii x)) nw) := by
  refine QfN Tryd.func31 ?_
  refine Qs<|Qp<|(Qa)<|Qn<|Qs<|Qp<|(Qa)<|Qn<|Qs<|Qs<|Qp<|(Qm)<|(Q2 1)<|(Qm)<|Qn<|Qb ?_
  refine QzK [(1, _), (4, _), (8, _)] [] (fun kk E m => ∃ (i : Nat) (w : Value) (oz : Option Blk), kk = (t + 1) - i ∧ E = [(5, w), (9, ii i)] ∧ m = [(50, oz)] ∧ (i ≤ (t + 1)) ∧ (OwnS 3 1 w (plcU k i).length ((plcU k i).map (fun x : Nat => ii x)) oz.toList)) ⟨0, nilS, none, rfl, rfl, rfl, by omega, (own_nil _ _)⟩ ⟨rfl, rfl, rfl, rfl, rfl, trivial⟩ ⟨rfl, trivial⟩ ?_
  rintro kk E m ⟨i, w, oz, rfl, rfl, rfl, hf0_0, hf0_1⟩
  simp only [catE, catL]
  have hul := plcU_len k i
  have hdv : k / 2 ^ i ≤ 15 := Nat.le_trans (Nat.div_le_self _ _) hm
  refine Qs<|Qp<|(Ql)<|Qn<|Qs ?_
  refine e_cond rfl ?_ ?_
  · intro hc0
    have hc0 : i < (t + 1) := by have := of_decide_eq_true hc0; omega
    refine Qk<|Qs<|Qb<|Qs<|Qp<|(Qm)<|(Qa)<|Qn<|Qs<|Qp<|(Qm)<|(Qm) ?_
    refine e_shr_i rfl rfl rfl (by omega) ?_
    refine e_and1 hdv rfl rfl rfl ?_
    refine (Qc)<|Qn ?_
    refine e_cond rfl ?_ ?_
    · intro hc1
      have hc1 : k / 2 ^ i % 2 = 1 := by have := of_decide_eq_true hc1; omega
      refine Qp<|(Qm)<|(Qm) ?_
      refine e_buildSl 0 #[ii i] (Uu 22 rfl) (Uz 3 rfl) (Ub 3 rfl) (by decide) (by decide) rfl (by kernel_rfl) rfl fun r1 => ?_
      refine e_append 50 hf0_1 (shows_new _ _ (by rfl)) rfl (seen1 0 rfl ⟨[], trivial⟩) (Uu 22) (Uz 3) (Uy 3) (Ub 3) (by rfl) rfl rfl (one_ii i) (by simp only [maxLen]; omega) (by omega) rfl fun v3_1 oz3_1 ho3_1 => ?_
      refine (Qa)<|Qn<|Qp<|(Q2 1)<|(Qm)<|Qn ?_
      refine QzL ⟨i + 1, _, _, rfl, rfl, rfl, by omega, (by first | exact own_fix ho3_1 (by rw [plcU_yes hc1, List.length_append]; rfl) (by rw [plcU_yes hc1, List.map_append]; rfl) | exact own_fix hf0_1 (by rw [plcU_no hc1]) (by rw [plcU_no hc1]))⟩ ⟨rfl, rfl, rfl, rfl, rfl, trivial⟩ ⟨rfl, trivial⟩ ?_
      omega
    · intro hc1
      have hc1 : ¬ k / 2 ^ i % 2 = 1 := by have := of_decide_eq_false hc1; omega
      refine Qk<|Qp<|(Q2 1)<|(Qm)<|Qn ?_
      refine QzL ⟨i + 1, _, _, rfl, rfl, rfl, by omega, (by first | exact own_fix ho3_1 (by rw [plcU_yes hc1, List.length_append]; rfl) (by rw [plcU_yes hc1, List.map_append]; rfl) | exact own_fix hf0_1 (by rw [plcU_no hc1]) (by rw [plcU_no hc1]))⟩ ⟨rfl, rfl, rfl, rfl, rfl, trivial⟩ ⟨rfl, trivial⟩ ?_
      omega
  · intro hc0
    have hc0 := of_decide_eq_false hc0
    have hz0 : i = (t + 1) := by omega
    refine Qe<|Qs<|Qp<|(Qm)<|(Qa)<|Qn<|Qr ?_
    exact ⟨_, _, _, 50, rfl, .tmp rfl, (own_fix hf0_1 (by rw [hz0]) (by rw [hz0])), rfl⟩
set_option maxHeartbeats 4000000 in
theorem patternOfI_fn (DG : Mem) (zn zm : Int) (hW : ∀ (G : Mem) (v : Value) (l : List Nat) (ps : List Int), (∀ b ∈ l, b < 256) → ps.length ≤ 1000000 → Shows (DG ++ G) 1 v ps.length (ps.map iv) → (pwith l ps).1 = 0 → Fx Tryd.prog (DG ++ G) [] 8 #[sv l, v] (fun w l1 nw => l1 = [] ∧ ∃ w', w = .tuple #[w', ii 0] ∧ PatIsI l (decide (l = nXF)) ps (wq l ps 0) (wq l ps 1) (wt l ps) w' nw)) : Fx Tryd.prog ((⟨0, (nm6.map sv).toArray, 57⟩ : Blk) :: (DG ++ G)) [] 15 #[.int .i64 zn, .int .i64 zm] (fun w l1 nw => l1 = [] ∧ ∃ w', w = .tuple #[w', .bool true] ∧ PatIs2 (nmK (pkn zn 6)) (decide ((nmK (pkn zn 6)) = nXF)) (psK (pkn zn 6) (pkn zm 16)) (wq (nmK (pkn zn 6)) (ci (psK (pkn zn 6) (pkn zm 16))) 0) (wq (nmK (pkn zn 6)) (ci (psK (pkn zn 6) (pkn zm 16))) 1) (wt (nmK (pkn zn 6)) (ci (psK (pkn zn 6) (pkn zm 16)))) w' nw) := by
  have hk := pkn_lt zn (m := 6) (by decide)
  have hj := pkn_lt zm (m := 16) (by decide)
  obtain ⟨hb1, hb2, hb3, hb4⟩ := base_ok _ hk
  have hwa := with_all _ hk _ hj
  refine fxD2 (n := 44) Tryd.func15 rfl rfl (by simp) (argE [.int .i64 zn, .int .i64 zm] 0) (argE_ok _) ?_
  refine Qs<|Qp<|(QH 0) fun r1=>(Qa)<|Qn<|Qs<|Qp<|(Qm) ?_
  refine e_call rfl (Un 18) (picked_fn zn 6 (by decide) (by decide)) rfl rfl ?_
  refine e_index0 (Uu 57) (Uz 9) rfl rfl hk rfl ?_
  refine e_load1g (i := 0) (Uu 9) rfl rfl rfl (nm6_at hk) rfl ?_
  refine (Qa)<|Qn<|Qs<|QR ⟨[], 4, [], none⟩<|(Qm) ?_
  refine e_callD [(0, _)] (by repeat (first | exact bag_nil | exact bag_lab _ | apply bag_skip rfl)) ⟨rfl, trivial⟩ rfl rfl rfl (Un 8) (seen_sub (fun x hx => List.mem_cons_of_mem _ hx)) (hW G nilS (nmK (pkn zn 6)) [] hb4 (by simp) (.inl ⟨rfl, rfl, none, 0, rfl, fun _ => rfl⟩) hb1) (pat_roomI (nmK (pkn zn 6)) (decide ((nmK (pkn zn 6)) = nXF)) [] (wq (nmK (pkn zn 6)) [] 0) (wq (nmK (pkn zn 6)) [] 1) (wt (nmK (pkn zn 6)) [])) rfl rfl fun v1_1 nw1_1 hD1_1 => ?_
  simp only [catL]
  obtain ⟨_, rfl, vp1, hp1, va1, vb1, vt1, tv1, rfl, ha1, hb1', ht1, hn1, hl1⟩ := hD1_1
  refine (Qm)<|(Qx)<|(Qx)<|(QH 1) fun r2=>?_
  refine e_storeA (i := 1) (Uz 26) rfl rfl (arrv_size _ _) (catOkP (shows_oneC hp1) (shows_oneC ha1) (shows_oneC hb1') (shows_oneC ht1)) rfl cells_sz (.inl rfl) ?_
  refine (Qa)<|Qn<|Qs<|(Qq ⟨[], 4, [], none⟩)<|(Qm)<|(Qf 5)<|(QV 5 1)<|(QC ht1) ?_
  refine e_as (show _ = ii (tnK (pkn zn 6)) from rfl) ?_
  refine (Qm) ?_
  refine e_call rfl (Un 18) (picked_fn zm 16 (by decide) (by decide)) rfl rfl ?_
  refine e_callN 2 (fun v => v) rfl rfl (Un 31) seenG (places_fn (tnK (pkn zn 6)) (pkn zm 16) (by omega) (by omega)) (by have := plc_len (tnK (pkn zn 6)) (pkn zm 16); simp only [maxLen]; omega) (by rw [List.length_map, Nat.mul_one]) rfl rfl fun v1_2 oz1_2 ho1_2 => ?_
  refine e_callD [(0, _), (1, _), (2, _)] (by repeat (first | exact bag_nil | exact bag_lab _ | apply bag_skip rfl)) ⟨rfl, rfl, rfl, trivial⟩ rfl rfl rfl (Un 8) (seen_app (seen_sub (fun x hx => List.mem_cons_of_mem _ (List.mem_append_left _ hx))) (seenM 2 rfl ⟨[], trivial⟩)) (hW oz1_2.toList v1_2 (nmK (pkn zn 6)) (ci (psK (pkn zn 6) (pkn zm 16))) hb4 (by have := psK_len (pkn zn 6) (pkn zm 16); simp only [ci, List.length_map]; omega) (by rw [ci_ii, show (ci (psK (pkn zn 6) (pkn zm 16))).length = (psK (pkn zn 6) (pkn zm 16)).length by simp [ci]]; exact ho1_2.shows.mono (fun x hx => List.mem_append_right _ hx)) hwa) (pat_roomI (nmK (pkn zn 6)) (decide ((nmK (pkn zn 6)) = nXF)) (ci (psK (pkn zn 6) (pkn zm 16))) (wq (nmK (pkn zn 6)) (ci (psK (pkn zn 6) (pkn zm 16))) 0) (wq (nmK (pkn zn 6)) (ci (psK (pkn zn 6) (pkn zm 16))) 1) (wt (nmK (pkn zn 6)) (ci (psK (pkn zn 6) (pkn zm 16))))) rfl rfl fun v1_3 nw1_3 hD1_3 => ?_
  simp only [catL]
  obtain ⟨_, rfl, vp2, hp2, va2, vb2, vt2, tv2, rfl, ha2, hb2', ht2, hn2, hl2⟩ := hD1_3
  refine (Qm)<|(Qx)<|(Qx)<|(QH 3) fun r4=>?_
  refine e_storeA (i := 3) (Uz 26) rfl rfl (arrv_size _ _) (catOkP (shows_oneC hp2) (shows_oneC ha2) (shows_oneC hb2') (shows_oneC ht2)) rfl cells_sz (.inl rfl) ?_
  refine (Qa)<|Qn<|Qs<|(Qq ⟨[r1], 1, [], none⟩) ?_
  refine e_loadA (i := 3) (Uu 26) rfl (Uz 26) rfl rfl (arrv_size _ _) rfl ⟨[0], rfl, rfl, trivial⟩ ?_
  refine e_freeze 2 [(0, _), (1, _), (3, _)] rfl rfl (by repeat (first | exact bag_nil | exact bag_lab _ | apply bag_skip rfl)) ⟨rfl, rfl, rfl, trivial⟩ rfl rfl ?_
  simp only [catL]
  refine (Qm)<|(Qc)<|(Qar)<|(Qm)<|(Qy)<|(Qm)<|(Qy)<|(Qc)<|(Qar)<|(QT)<|(Qm)<|(Qy)<|(Qf 5)<|(Qy) ?_
  refine e_ldV1 (i := 1) 5 (Uu 24) rfl rfl rfl rfl (by decide) rfl ⟨[0], rfl, rfl, trivial⟩ ?_
  refine (Qy)<|(QC ht1) ?_
  refine e_as (show _ = ii (tnK (pkn zn 6)) from rfl) ?_
  refine (Qy)<|(QE)<|(Qat)<|(QT) ?_
  refine e_storeA (i := 0) (Uz 26) rfl rfl (arrv_size _ _) (catOkP (shows_oneC hp2) (shows_oneC ha2) (shows_oneC hb2') (shows_oneC ht2)) rfl cells_sz (.inr (by simp)) ?_
  refine (Qa)<|Qn<|Qr ?_
  exact ⟨_, _, _, ((([] ++ nw1_1) ++ nw1_3) ++ oz1_2.toList), rfl, .cell (i := 0) rfl rfl (Uu 26) rfl (Uz 26) (arrv_size _ _), .tmp rfl, (pat_two (patI_mono ⟨vp2, hp2, va2, vb2, vt2, tv2, rfl, ha2, hb2', ht2, hn2, hl2⟩ (fun x hx => List.mem_append_left _ (List.mem_append_right _ hx)))), (by repeat (first | exact bag_nil | exact bag_lab _ | apply bag_skip rfl))⟩
end Go.Proofs.YtejejmhbhegneaaDoor
namespace Go.Proofs.YtejejmhbhegneaaDoor
open Go Go.RowKit
variable {G : Mem}
set_option maxHeartbeats 8000000 in
theorem patternFewI_fn (DG : Mem) (zn zt zk : Int) (hW : ∀ (G : Mem) (v : Value) (l : List Nat) (ps : List Int), (∀ b ∈ l, b < 256) → ps.length ≤ 1000000 → Shows (DG ++ G) 1 v ps.length (ps.map iv) → (pwith l ps).1 = 0 → Fx Tryd.prog (DG ++ G) [] 8 #[sv l, v] (fun w l1 nw => l1 = [] ∧ ∃ w', w = .tuple #[w', ii 0] ∧ PatIsI l (decide (l = nXF)) ps (wq l ps 0) (wq l ps 1) (wt l ps) w' nw)) (hCh : ∀ (G : Mem) (ba : List Nat) (la : Bool) (vpa v0a v1a vta : Value) (tva : List Value) (pa q0a q1a : List Int) (ta : List (List Int)), (∀ x ∈ ba, x < 256) → Shows (DG ++ G) 1 vta tva.length tva → ShowsLI (DG ++ G) (vpa :: v0a :: v1a :: tva) (pa :: q0a :: q1a :: ta) → (ta.length ≤ 1000000 ∧ ∀ l ∈ pa :: q0a :: q1a :: ta, l.length ≤ 1000000) → Fn Tryd.prog (DG ++ G) 17 #[.agg (patC ba la vpa v0a v1a vta)] (ii (pfault la q0a q1a ta))) : Fn Tryd.prog ((⟨0, (nm6.map sv).toArray, 57⟩ : Blk) :: (DG ++ G)) 7 #[.int .i64 zn, .int .i64 zt, .int .i64 zk] (.bool true) := by
  have hk := pkn_lt zn (m := 6) (by decide)
  have hp0 : pkn 0 16 = 0 := by decide
  obtain ⟨_, hb2, hb3, hb8⟩ := base_ok _ hk
  have hwa := with_all _ hk 0 (by decide)
  obtain ⟨_, ho2, _, _, _⟩ := okK_open hk (show 0 < 16 by decide)
  obtain ⟨hf1, hf2, hf3, hf4⟩ := few_open hk
  have hpo := patternOfI_fn (G := G) DG zn 0 hW
  rw [hp0] at hpo
  have hpl := psK_len (pkn zn 6) 0
  have hws := pwith_short hwa
  generalize nmK (pkn zn 6) = nk at *
  generalize psK (pkn zn 6) 0 = pk at *
  obtain ⟨q0, hq0⟩ : ∃ x, x = wq nk (ci pk) 0 := ⟨_, rfl⟩
  obtain ⟨q1, hq1⟩ : ∃ x, x = wq nk (ci pk) 1 := ⟨_, rfl⟩
  obtain ⟨us, hus⟩ : ∃ x, x = wt nk (ci pk) := ⟨_, rfl⟩
  have hsz : us.length ≤ 1000 ∧ pk.length ≤ 1000 ∧ q0.length ≤ 1000 ∧ q1.length ≤ 1000 ∧ ∀ q ∈ us, q.length ≤ 1000 := back_sizes hws hpl hb3 hq0 hq1 hus
  have hbg2 := pat_sizes1000 hsz
  rw [← hq0, ← hq1, ← hus] at ho2 hpo hf4
  rw [← hus] at hf1 hf2 hf3
  obtain ⟨i0, hi0e⟩ : ∃ x, x = pkn zt us.length := ⟨_, rfl⟩
  have hi0 : i0 < us.length := by rw [hi0e]; exact pkn_lt zt hf2
  have hti := hf3 i0 hi0
  obtain ⟨j0, hj0e⟩ : ∃ x, x = pkn zk (us.getD i0 []).length := ⟨_, rfl⟩
  have hj0 : j0 < (us.getD i0 []).length := by rw [hj0e]; exact pkn_lt zk hti.1
  obtain ⟨hf5, hf6⟩ := hf4 i0 j0 hi0 hj0
  obtain ⟨x0, hx0⟩ : ∃ x, x = (us.getD i0 []).getD j0 0 := ⟨_, rfl⟩
  refine Qf1 Tryd.func7 ?_
  refine Qs<|Qp<|(Qa)<|Qn<|Qs<|QR ⟨[], 4, [], none⟩<|(Qm) ?_
  refine e_callD [] (by repeat (first | exact bag_nil | exact bag_lab _ | apply bag_skip rfl)) trivial rfl rfl rfl (Un 15) seenG hpo (pat_room3 nk (decide (nk = nXF)) pk q0 q1 us (.bool true)) rfl rfl fun v1_1 nw1_1 hD1_1 => ?_
  simp only [catL]
  obtain ⟨_, rfl, vp1, hp1, va1, vb1, vt1, tv1, rfl, ha1, hb1, ht1, hn1, hl1⟩ := hD1_1
  refine (Qm)<|(Qx)<|(Qx)<|(QH 0) fun r1=>?_
  refine e_storeA (i := 0) (Uz 26) rfl rfl (arrv_size _ _) (catOkP (shows_oneC hp1) (shows_oneC ha1) (shows_oneC hb1) (shows_oneC ht1)) rfl cells_sz (.inl rfl) ?_
  refine (Qa)<|Qn<|Qs<|Qs<|Qp<|(Qm)<|(Q0)<|Qn ?_
  refine e_cond rfl ?_ ?_
  · intro hc0
    exact absurd hc0 (by decide)
  · intro hc0
    refine Qk<|Qs<|Qp<|(Qm)<|(Qf 5)<|(QV 5 0)<|(QC (Shows.mono (B' := ([] ++ nw1_1)) ht1 (fun x hx => List.mem_append_right _ hx))) ?_
    refine e_call rfl (Un 18) (picked_fn zt us.length (by omega) (by omega)) rfl rfl ?_
    refine e_as (congrArg ii hi0e.symm) ?_
    refine (Qa)<|Qn<|Qs<|Qp<|(Qm)<|(Qf 5)<|(QV 5 0)<|(Qm) ?_
    refine e_atV (Shows.mono (B' := ([] ++ nw1_1)) ht1 (fun x hx => List.mem_append_right _ hx)) (Uu 24) (Uz 22) rfl rfl (by omega) rfl ?_
    refine (QS) ?_
    refine e_loadV (Shows.mono (B' := ([] ++ nw1_1)) ht1 (fun x hx => List.mem_append_right _ hx)) (seen_bag (by repeat (first | exact bag_nil | exact bag_lab _ | apply bag_skip rfl)) rfl) (Uu 22) rfl rfl (val_at (by omega)) rfl ?_
    refine (QC (Shows.mono (B' := ([] ++ nw1_1)) (li_at hl1 hi0) (fun x hx => List.mem_append_right _ hx))) ?_
    refine e_max (q := 1) rfl rfl rfl rfl ?_
    refine e_as (show _ = ii (us.getD i0 []).length from congrArg ii (Nat.max_eq_left hti.1)) ?_
    refine e_call rfl (Un 18) (picked_fn zk (us.getD i0 []).length (by omega) (by omega)) rfl rfl ?_
    refine e_as (congrArg ii hj0e.symm) ?_
    refine (Qa)<|Qn<|Qs<|Qs<|Qp<|(Qm)<|(Qf 5)<|(QV 5 0)<|(Qm) ?_
    refine e_atV (Shows.mono (B' := ([] ++ nw1_1)) ht1 (fun x hx => List.mem_append_right _ hx)) (Uu 24) (Uz 22) rfl rfl (by omega) rfl ?_
    refine (QS) ?_
    refine e_loadV (Shows.mono (B' := ([] ++ nw1_1)) ht1 (fun x hx => List.mem_append_right _ hx)) (seen_bag (by repeat (first | exact bag_nil | exact bag_lab _ | apply bag_skip rfl)) rfl) (Uu 22) rfl rfl (val_at (by omega)) rfl ?_
    refine (QC (Shows.mono (B' := ([] ++ nw1_1)) (li_at hl1 hi0) (fun x hx => List.mem_append_right _ hx)))<|(QE)<|(Qaf)<|Qn<|(Qcf)<|Qk<|Qs<|Qp<|(Qf 5)<|(QV 5 0)<|(Qm) ?_
    refine e_atV (Shows.mono (B' := ([] ++ nw1_1)) ht1 (fun x hx => List.mem_append_right _ hx)) (Uu 24) (Uz 22) rfl rfl (by omega) rfl ?_
    refine (QS) ?_
    refine e_loadV (Shows.mono (B' := ([] ++ nw1_1)) ht1 (fun x hx => List.mem_append_right _ hx)) (seen_bag (by repeat (first | exact bag_nil | exact bag_lab _ | apply bag_skip rfl)) rfl) (Uu 22) rfl rfl (val_at (by omega)) rfl ?_
    refine (Qm) ?_
    refine e_atV (Shows.mono (B' := ([] ++ nw1_1)) (li_at hl1 hi0) (fun x hx => List.mem_append_right _ hx)) (Uu 22) (Uz 3) rfl rfl (by omega) rfl ?_
    refine (QS) ?_
    refine e_loadV (Shows.mono (B' := ([] ++ nw1_1)) (li_at hl1 hi0) (fun x hx => List.mem_append_right _ hx)) (seen_bag (by repeat (first | exact bag_nil | exact bag_lab _ | apply bag_skip rfl)) rfl) (Uu 3) rfl rfl (ci_at hj0) rfl ?_
    refine e_as (congrArg ii hx0.symm) ?_
    refine (Qa)<|Qn<|Qs<|Qp<|(QD 0)<|(QH 1) fun r2=>?_
    refine e_storeA (i := 1) (Uz 26) rfl rfl (arrv_size _ _) (catOkP (shows_oneC hp1) (shows_oneC ha1) (shows_oneC hb1) (shows_oneC ht1)) rfl cells_sz (.inl rfl) ?_
    refine Qn<|Qs<|Qp ?_
    refine e_buildSl0 2 (Uu 24 rfl) (Uz 22 rfl) rfl fun r3 => ?_
    refine (Qf 5)<|(QV 5 0) ?_
    refine e_append 2 own_none (Shows.mono (B' := ([] ++ nw1_1)) ht1 (fun x hx => List.mem_append_right _ hx)) rfl (seen_bag (by repeat (first | exact bag_nil | exact bag_lab _ | apply bag_skip rfl)) rfl) (Uu 24) (Uz 22) (Uy 22) (Ub 22) (by rfl) rfl rfl (li_one hl1) (by simp only [maxLen]; omega) (by omega) rfl fun v3_2 oz3_2 ho3_2 => ?_
    refine (Qf 5) ?_
    refine e_stV (i := 1) 5 (Uz 24) rfl rfl (shows_oneC ho3_2.shows) rfl rfl (by decide) (.inl rfl) ?_
    refine Qn<|Qs ?_
    refine e_order ⟨[], 1, [], (some ([r1, r2] ++ List.map Blk.b (([] ++ nw1_1))))⟩ [0, 1, 2, 4, 5, 6, 7, 8, 10, 3, 9, 11, 12, 13, 14] mixed (by kernel_rfl) ?_
    refine (Qf 5) ?_
    refine e_ldV1 (i := 1) 5 (Uu 24) rfl rfl rfl rfl (by decide) rfl ⟨[], trivial, _, rfl, by simp⟩ ?_
    refine (Qm)<|(Qf 5) ?_
    refine e_ldV1 (i := 0) 5 (Uu 24) rfl rfl rfl rfl (by decide) rfl ⟨[], trivial, _, rfl, by simp⟩ ?_
    refine (Qm) ?_
    refine e_atV (Shows.mono (B' := ([] ++ nw1_1)) ht1 (fun x hx => List.mem_append_right _ hx)) (Uu 24) (Uz 22) rfl rfl (by omega) rfl ?_
    refine (QS) ?_
    refine e_loadV (Shows.mono (B' := ([] ++ nw1_1)) ht1 (fun x hx => List.mem_append_right _ hx)) (seen_bagL (by repeat (first | exact bag_nil | exact bag_lab _ | apply bag_skip rfl)) rfl rfl) (Uu 22) rfl rfl (val_at (by omega)) rfl ?_
    refine (Qm) ?_
    refine e_buildSl0 3 (Uu 22 rfl) (Uz 3 rfl) rfl fun r4 => ?_
    refine e_appendL 3 own_none (Shows.mono (B' := ([] ++ nw1_1)) (li_at hl1 hi0) (fun x hx => List.mem_append_right _ hx)) rfl (bag_any (by repeat (first | exact bag_nil | exact bag_lab _ | apply bag_skip rfl))) (off_bag (js := [0, 1]) rfl (by repeat (first | exact bag_nil | exact bag_lab _ | apply bag_skip rfl)) ⟨rfl, rfl, rfl, rfl, trivial⟩) (Uu 22) (Uz 3) (Uy 3) (Ub 3) (by rfl) rfl rfl iv_one (by simp only [maxLen]; omega) (by omega) rfl fun v3_3 oz3_3 ho3_3 => ?_
    refine e_buildSl 4 #[ii x0] (Uu 22 rfl) (Uz 3 rfl) (Ub 3 rfl) (by decide) (by decide) rfl (by kernel_rfl) rfl fun r5 => ?_
    refine e_appendL 3 ho3_3 (shows_new _ _ (by rfl)) rfl (fun q hq => by simp at hq; subst hq; exact .inr ⟨4, rfl⟩) (off_bag (js := [0, 1]) rfl (by repeat (first | exact bag_nil | exact bag_lab _ | apply bag_skip rfl)) ⟨rfl, rfl, rfl, rfl, trivial⟩) (Uu 22) (Uz 3) (Uy 3) (Ub 3) (by rfl) rfl rfl (one_ii x0) (by simp only [maxLen]; omega) (by omega) rfl fun v3_4 oz3_4 ho3_4 => ?_
    refine e_atV (OwnS.shows ho3_2) (Uu 24) (Uz 22) rfl rfl (by omega) rfl ?_
    refine (QS) ?_
    refine e_stOwn (i := 2) ho3_2 (Uz 22) rfl rfl (shows_oneC ho3_4.shows) rfl (by omega) rfl fun oz3_5 ho3_5 => ?_
    refine Qn<|Qs<|Qp<|(QD 0)<|(QH 5) fun r6=>?_
    refine e_storeA (i := 5) (Uz 26) rfl rfl (arrv_size _ _) (catOkP (shows_oneC hp1) (shows_oneC ha1) (shows_oneC hb1) (shows_oneC ht1)) rfl cells_sz (.inl rfl) ?_
    refine Qn<|Qs<|Qp ?_
    refine e_buildSl0 6 (Uu 24 rfl) (Uz 22 rfl) rfl fun r7 => ?_
    refine (Qf 5)<|(QV 5 0) ?_
    refine e_append 6 own_none (Shows.mono (B' := ([] ++ nw1_1)) ht1 (fun x hx => List.mem_append_right _ hx)) rfl (seen_bag (by repeat (first | exact bag_nil | exact bag_lab _ | apply bag_skip rfl)) rfl) (Uu 24) (Uz 22) (Uy 22) (Ub 22) (by rfl) rfl rfl (li_one hl1) (by simp only [maxLen]; omega) (by omega) rfl fun v3_6 oz3_6 ho3_6 => ?_
    refine (Qf 5) ?_
    refine e_stV (i := 5) 5 (Uz 24) rfl rfl (shows_oneC ho3_6.shows) rfl rfl (by decide) (.inl rfl) ?_
    refine Qn<|Qs ?_
    refine e_order ⟨[], 1, [], (some ([r1, r6] ++ List.map Blk.b (([] ++ nw1_1))))⟩ [0, 1, 2, 4, 5, 6, 7, 8, 9, 10, 12, 13, 14, 15, 16, 17, 18, 19, 3, 11, 20, 21, 22] mixed (by kernel_rfl) ?_
    refine (Qf 5) ?_
    refine e_ldV1 (i := 5) 5 (Uu 24) rfl rfl rfl rfl (by decide) rfl ⟨[], trivial, _, rfl, by simp⟩ ?_
    refine (Qm)<|(Qf 5) ?_
    refine e_ldV1 (i := 0) 5 (Uu 24) rfl rfl rfl rfl (by decide) rfl ⟨[], trivial, _, rfl, by simp⟩ ?_
    refine (Qm) ?_
    refine e_atV (Shows.mono (B' := ([] ++ nw1_1)) ht1 (fun x hx => List.mem_append_right _ hx)) (Uu 24) (Uz 22) rfl rfl (by omega) rfl ?_
    refine (QS) ?_
    refine e_loadV (Shows.mono (B' := ([] ++ nw1_1)) ht1 (fun x hx => List.mem_append_right _ hx)) (seen_bagL (by repeat (first | exact bag_nil | exact bag_lab _ | apply bag_skip rfl)) rfl rfl) (Uu 22) rfl rfl (val_at (by omega)) rfl ?_
    refine (Qm) ?_
    refine e_sliceV 0 j0 (Shows.mono (B' := ([] ++ nw1_1)) (li_at hl1 hi0) (fun x hx => List.mem_append_right _ hx)) (Uu 22) (Uz 3) rfl rfl rfl rfl ⟨_, rfl⟩ (by omega) (by omega) rfl ?_
    refine (Qf 5) ?_
    refine e_ldV1 (i := 0) 5 (Uu 24) rfl rfl rfl rfl (by decide) rfl ⟨[], trivial, _, rfl, by simp⟩ ?_
    refine (Qm) ?_
    refine e_atV (Shows.mono (B' := ([] ++ nw1_1)) ht1 (fun x hx => List.mem_append_right _ hx)) (Uu 24) (Uz 22) rfl rfl (by omega) rfl ?_
    refine (QS) ?_
    refine e_loadV (Shows.mono (B' := ([] ++ nw1_1)) ht1 (fun x hx => List.mem_append_right _ hx)) (seen_bagL (by repeat (first | exact bag_nil | exact bag_lab _ | apply bag_skip rfl)) rfl rfl) (Uu 22) rfl rfl (val_at (by omega)) rfl ?_
    refine (Qm)<|(Q2 1) ?_
    refine e_sliceV (j0 + 1) (us.getD i0 []).length (Shows.mono (B' := ([] ++ nw1_1)) (li_at hl1 hi0) (fun x hx => List.mem_append_right _ hx)) (Uu 22) (Uz 3) rfl rfl rfl ⟨_, rfl⟩ rfl (by omega) (by omega) rfl ?_
    refine e_buildSl0 7 (Uu 22 rfl) (Uz 3 rfl) rfl fun r8 => ?_
    refine e_appendL 7 own_none (cut_ints (Shows.mono (B' := ([] ++ nw1_1)) (li_at hl1 hi0) (fun x hx => List.mem_append_right _ hx)) (Nat.zero_le _) (Nat.le_of_lt hj0)) rfl (bag_any (by repeat (first | exact bag_nil | exact bag_lab _ | apply bag_skip rfl))) (off_bag (js := [0, 5]) rfl (by repeat (first | exact bag_nil | exact bag_lab _ | apply bag_skip rfl)) ⟨rfl, rfl, rfl, rfl, trivial⟩) (Uu 22) (Uz 3) (Uy 3) (Ub 3) (by rfl) rfl rfl iv_one (by simp only [maxLen, List.length_take, List.length_drop]; omega) (by simp only [List.length_take, List.length_drop]; omega) rfl fun v3_7 oz3_7 ho3_7 => ?_
    refine e_appendL 7 ho3_7 (cut_ints (Shows.mono (B' := ([] ++ nw1_1)) (li_at hl1 hi0) (fun x hx => List.mem_append_right _ hx)) (show j0 + 1 ≤ (us.getD i0 []).length by omega) (Nat.le_refl _)) rfl (bag_any (by repeat (first | exact bag_nil | exact bag_lab _ | apply bag_skip rfl))) (off_bag (js := [0, 5]) rfl (by repeat (first | exact bag_nil | exact bag_lab _ | apply bag_skip rfl)) ⟨rfl, rfl, rfl, rfl, trivial⟩) (Uu 22) (Uz 3) (Uy 3) (Ub 3) (by rfl) rfl rfl iv_one (by simp only [maxLen, List.length_take, List.length_drop]; omega) (by simp only [List.length_take, List.length_drop]; omega) rfl fun v3_8 oz3_8 ho3_8 => ?_
    refine e_atV (OwnS.shows ho3_6) (Uu 24) (Uz 22) rfl rfl (by omega) rfl ?_
    refine (QS) ?_
    refine e_stOwn (i := 6) ho3_6 (Uz 22) rfl rfl (shows_oneC ho3_8.shows) rfl (by omega) rfl fun oz3_9 ho3_9 => ?_
    refine Qn<|Qs ?_
    by_cases h1x : x0 = 1
    · skip
      refine Qp<|(QD 0) ?_
      refine e_callS rfl rfl (Un 17) (seen_app (seen_sub (fun x hx => List.mem_cons_of_mem _ (List.mem_append_left _ hx))) (seen_bag (by repeat (first | exact bag_nil | exact bag_lab _ | apply bag_skip rfl)) rfl)) (hCh ([] ++ nw1_1) nk (decide (nk = nXF)) vp1 va1 vb1 vt1 tv1 (ci pk) (ci q0) (ci q1) (us.map ci) hb8 (by rw [hn1]; exact ht1.mono (fun x hx => List.mem_append_right _ (List.mem_append_right _ hx))) (pat_li2 (hp1.mono (fun x hx => List.mem_append_right _ (List.mem_append_right _ hx))) (ha1.mono (fun x hx => List.mem_append_right _ (List.mem_append_right _ hx))) (hb1.mono (fun x hx => List.mem_append_right _ (List.mem_append_right _ hx))) (li_mono hl1 (fun x hx => List.mem_append_right _ (List.mem_append_right _ hx)))) hbg2) rfl rfl ?_
      refine e_as (congrArg ii ho2) ?_
      refine (Qc)<|(Qar)<|(Qm)<|(Qy)<|(QD 1)<|(Qy) ?_
      refine e_callS rfl rfl (Un 17) (seen_app (seen_sub (fun x hx => List.mem_cons_of_mem _ (List.mem_append_left _ hx))) (seen_app (seen_bag (by repeat (first | exact bag_nil | exact bag_lab _ | apply bag_skip rfl)) rfl) (seen_app (seenM 2 rfl ⟨[], trivial⟩) (seenM 3 rfl ⟨[], trivial⟩)))) (hCh (([] ++ nw1_1) ++ (oz3_5.toList ++ oz3_4.toList)) nk (decide (nk = nXF)) vp1 va1 vb1 v3_2 (tv1.set i0 v3_4) (ci pk) (ci q0) (ci q1) ((twK us i0 j0).map ci) hb8 ((few_own ho3_5 hn1).mono (fun x hx => List.mem_append_right _ (List.mem_append_right _ (List.mem_append_left _ hx)))) (pat_li2 (hp1.mono (fun x hx => List.mem_append_right _ (List.mem_append_left _ (List.mem_append_right _ hx)))) (ha1.mono (fun x hx => List.mem_append_right _ (List.mem_append_left _ (List.mem_append_right _ hx)))) (hb1.mono (fun x hx => List.mem_append_right _ (List.mem_append_left _ (List.mem_append_right _ hx)))) (tw_li (li_mono hl1 (fun x hx => List.mem_append_right _ (List.mem_append_left _ (List.mem_append_right _ hx)))) hi0 (Shows.mono (few_ints (l := (us.getD i0 []) ++ [(us.getD i0 []).getD j0 0]) ho3_4 (by rw [hx0]; exact few_tw) (by simp only [List.length_append, List.length_cons, List.length_nil]; omega)) (fun x hx => List.mem_append_right _ (List.mem_append_right _ (List.mem_append_right _ hx)))))) (pat_sizes1000 (few_sizes hsz i0 (by simp only [List.length_append, List.length_cons, List.length_nil]; omega)))) rfl rfl ?_
      refine e_as (congrArg ii hf5) ?_
      refine (Qy)<|(Qc)<|(Qar)<|(QT)<|(Qm)<|(Qy)<|(Qm)<|(Qy)<|(QN) ?_
      refine e_as (congrArg Value.bool (decide_eq_false (fun h => h (by omega)))) ?_
      refine (Qy)<|(Qm)<|(Qy)<|(QD 5)<|(Qy) ?_
      refine e_callS rfl rfl (Un 17) (seen_app (seen_sub (fun x hx => List.mem_cons_of_mem _ (List.mem_append_left _ hx))) (seen_app (seen_bag (by repeat (first | exact bag_nil | exact bag_lab _ | apply bag_skip rfl)) rfl) (seen_app (seenM 6 rfl ⟨[], trivial⟩) (seenM 7 rfl ⟨[], trivial⟩)))) (hCh (([] ++ nw1_1) ++ (oz3_9.toList ++ oz3_8.toList)) nk (decide (nk = nXF)) vp1 va1 vb1 v3_6 (tv1.set i0 v3_8) (ci pk) (ci q0) (ci q1) ((leK us i0 j0).map ci) hb8 ((few_own ho3_9 hn1).mono (fun x hx => List.mem_append_right _ (List.mem_append_right _ (List.mem_append_left _ hx)))) (pat_li2 (hp1.mono (fun x hx => List.mem_append_right _ (List.mem_append_left _ (List.mem_append_right _ hx)))) (ha1.mono (fun x hx => List.mem_append_right _ (List.mem_append_left _ (List.mem_append_right _ hx)))) (hb1.mono (fun x hx => List.mem_append_right _ (List.mem_append_left _ (List.mem_append_right _ hx)))) (tw_li (li_mono hl1 (fun x hx => List.mem_append_right _ (List.mem_append_left _ (List.mem_append_right _ hx)))) hi0 (Shows.mono (few_ints (l := (us.getD i0 []).take j0 ++ (us.getD i0 []).drop (j0 + 1)) ho3_8 few_le (by simp only [List.length_append, List.length_take, List.length_drop]; omega)) (fun x hx => List.mem_append_right _ (List.mem_append_right _ (List.mem_append_right _ hx)))))) (pat_sizes1000 (few_sizes hsz i0 (by simp only [List.length_append, List.length_take, List.length_drop]; omega)))) rfl rfl ?_
      refine e_as (congrArg ii (hf6 (hx0.symm.trans h1x))) ?_
      refine (Qy)<|(Qc)<|(Qar)<|(Qy)<|(QF)<|(QT)<|(Qm)<|(Qy) ?_
      refine e_buildS (cells 6 [pV (.string ByteArray.empty), pV (.bool false), pV nilS, pV nilS, pV nilS, pV nilS]) (Ub 26 rfl) (Uu 26 rfl) pls26 rfl (by kernel_rfl) rfl ?_
      refine (Qy) ?_
      refine e_callS rfl rfl (Un 17) (seen_app (seen_sub (fun x hx => List.mem_cons_of_mem _ (List.mem_append_left _ hx))) (fun _ h => by cases h)) (hCh [] [] false nilS nilS nilS nilS [] [] [] [] [] (by simp) (few_zero _).1 (few_zero _).2 (by simp)) rfl rfl ?_
      refine e_as (congrArg ii (show pfault false [] [] [] = 1 by decide)) ?_
      refine (Qy)<|(Qc)<|(Qar)<|(QT)<|(Qa)<|Qn<|Qr ?_
      exact ⟨_, rfl, .tmp rfl⟩
    · skip
      refine Qp<|(QD 0) ?_
      refine e_callS rfl rfl (Un 17) (seen_app (seen_sub (fun x hx => List.mem_cons_of_mem _ (List.mem_append_left _ hx))) (seen_bag (by repeat (first | exact bag_nil | exact bag_lab _ | apply bag_skip rfl)) rfl)) (hCh ([] ++ nw1_1) nk (decide (nk = nXF)) vp1 va1 vb1 vt1 tv1 (ci pk) (ci q0) (ci q1) (us.map ci) hb8 (by rw [hn1]; exact ht1.mono (fun x hx => List.mem_append_right _ (List.mem_append_right _ hx))) (pat_li2 (hp1.mono (fun x hx => List.mem_append_right _ (List.mem_append_right _ hx))) (ha1.mono (fun x hx => List.mem_append_right _ (List.mem_append_right _ hx))) (hb1.mono (fun x hx => List.mem_append_right _ (List.mem_append_right _ hx))) (li_mono hl1 (fun x hx => List.mem_append_right _ (List.mem_append_right _ hx)))) hbg2) rfl rfl ?_
      refine e_as (congrArg ii ho2) ?_
      refine (Qc)<|(Qar)<|(Qm)<|(Qy)<|(QD 1)<|(Qy) ?_
      refine e_callS rfl rfl (Un 17) (seen_app (seen_sub (fun x hx => List.mem_cons_of_mem _ (List.mem_append_left _ hx))) (seen_app (seen_bag (by repeat (first | exact bag_nil | exact bag_lab _ | apply bag_skip rfl)) rfl) (seen_app (seenM 2 rfl ⟨[], trivial⟩) (seenM 3 rfl ⟨[], trivial⟩)))) (hCh (([] ++ nw1_1) ++ (oz3_5.toList ++ oz3_4.toList)) nk (decide (nk = nXF)) vp1 va1 vb1 v3_2 (tv1.set i0 v3_4) (ci pk) (ci q0) (ci q1) ((twK us i0 j0).map ci) hb8 ((few_own ho3_5 hn1).mono (fun x hx => List.mem_append_right _ (List.mem_append_right _ (List.mem_append_left _ hx)))) (pat_li2 (hp1.mono (fun x hx => List.mem_append_right _ (List.mem_append_left _ (List.mem_append_right _ hx)))) (ha1.mono (fun x hx => List.mem_append_right _ (List.mem_append_left _ (List.mem_append_right _ hx)))) (hb1.mono (fun x hx => List.mem_append_right _ (List.mem_append_left _ (List.mem_append_right _ hx)))) (tw_li (li_mono hl1 (fun x hx => List.mem_append_right _ (List.mem_append_left _ (List.mem_append_right _ hx)))) hi0 (Shows.mono (few_ints (l := (us.getD i0 []) ++ [(us.getD i0 []).getD j0 0]) ho3_4 (by rw [hx0]; exact few_tw) (by simp only [List.length_append, List.length_cons, List.length_nil]; omega)) (fun x hx => List.mem_append_right _ (List.mem_append_right _ (List.mem_append_right _ hx)))))) (pat_sizes1000 (few_sizes hsz i0 (by simp only [List.length_append, List.length_cons, List.length_nil]; omega)))) rfl rfl ?_
      refine e_as (congrArg ii hf5) ?_
      refine (Qy)<|(Qc)<|(Qar)<|(QT)<|(Qm)<|(Qy)<|(Qm)<|(Qy)<|(QN)<|(Qat)<|(Qy)<|(Qm)<|(Qo)<|(Qo)<|(Qo)<|(Qy)<|(QT)<|(QT)<|(Qm)<|(Qy) ?_
      refine e_buildS (cells 6 [pV (.string ByteArray.empty), pV (.bool false), pV nilS, pV nilS, pV nilS, pV nilS]) (Ub 26 rfl) (Uu 26 rfl) pls26 rfl (by kernel_rfl) rfl ?_
      refine (Qy) ?_
      refine e_callS rfl rfl (Un 17) (seen_app (seen_sub (fun x hx => List.mem_cons_of_mem _ (List.mem_append_left _ hx))) (fun _ h => by cases h)) (hCh [] [] false nilS nilS nilS nilS [] [] [] [] [] (by simp) (few_zero _).1 (few_zero _).2 (by simp)) rfl rfl ?_
      refine e_as (congrArg ii (show pfault false [] [] [] = 1 by decide)) ?_
      refine (Qy)<|(Qc)<|(Qar)<|(QT)<|(Qa)<|Qn<|Qr ?_
      exact ⟨_, rfl, .tmp rfl⟩
end Go.Proofs.YtejejmhbhegneaaDoor
namespace Go.Proofs.YtejejmhbhegneaaDoor
open Go Go.RowKit
variable {G : Mem}
set_option maxHeartbeats 400000 in
theorem lcut_fn (l : List Nat) (c : Nat) (hl : ∀ b ∈ l, b < 256) (hc : c < 256) (hz : l.length ≤ 4294967296) : Fn Tryd.prog G 74 #[sv l, sv [c]] (.tuple #[sv (cutA l c), sv (cutB l c), .bool (ixb l c).isSome]) := by
  refine Qf3 Tryd.func74 ?_
  refine Qs<|Qp ?_
  refine e_assign (v := sv []) rfl rfl ?_
  refine e_assign (v := sv []) rfl rfl ?_
  refine (Qa)<|Qn<|Qs<|Qs ?_
  rcases hi : ixb l c with _ | i
  · skip
    refine Qp<|(Qm)<|(Qm) ?_
    refine e_call rfl (Un 41) (lindex1_fn l c hl hc) rfl rfl ?_
    refine e_as (congrArg ixv hi) ?_
    refine (Qa)<|Qn<|Qs<|Qp<|(Qm)<|(QE)<|Qn ?_
    refine e_cond rfl ?_ ?_
    · intro hc0
      exact absurd (of_decide_eq_true hc0) (by decide)
    · intro hc0
      rw [show cutA l c = l by rw [cutA, hi], show cutB l c = [] by rw [cutB, hi]]
      refine Qk<|Qs<|Qp<|(Qm)<|(Qa) ?_
      refine e_assign (v := sv []) rfl rfl ?_
      refine (Qa)<|Qn<|Qr ?_
      exact ⟨_, _, _, rfl, .tmp rfl, .tmp rfl, .tmp rfl⟩
  · skip
    refine Qp<|(Qm)<|(Qm) ?_
    refine e_call rfl (Un 41) (lindex1_fn l c hl hc) rfl rfl ?_
    refine e_as (congrArg ixv hi) ?_
    refine (Qa)<|Qn<|Qs<|Qp<|(Qm)<|(QE)<|Qn ?_
    refine e_cond rfl ?_ ?_
    · intro hc0
      refine Qs<|(Qg)<|(Qm)<|(Qm) ?_
      refine e_sliceStr 0 i (Uu 9) rfl rfl rfl rfl ⟨_, rfl⟩ (by omega) (by have := (ixb_at hi).1; omega) rfl ?_
      refine e_as (show _ = sv (cutA l c) by rw [cutA, hi]; rfl) ?_
      refine (Qm)<|(Qm)<|(Qm)<|(QU) ?_
      refine e_as (show _ = ii 1 from rfl) ?_
      refine e_add_i rfl rfl rfl (by have := (ixb_at hi).1; omega) ?_
      refine e_sliceStr (i + 1) l.length (Uu 9) rfl rfl rfl ⟨_, rfl⟩ rfl (by have := (ixb_at hi).1; omega) (by omega) rfl ?_
      refine e_as (show _ = sv (cutB l c) by rw [cutB, hi]; exact congrArg sv (List.take_of_length_le (by simp))) ?_
      refine (Qa)<|(Qa)<|(Qa)<|Qn<|Qr ?_
      exact ⟨_, _, _, rfl, .tmp rfl, .tmp rfl, .tmp rfl⟩
    · intro hc0
      exact absurd (of_decide_eq_false hc0) (by omega)
set_option maxHeartbeats 400000 in
theorem cut_str (l : List Nat) (c : Nat) (hl : ∀ b ∈ l, b < 256) (hc : c < 256) (hz : l.length ≤ 4294967296) : Fn Tryd.prog G 54 #[sv l, sv [c]] (.tuple #[sv (cutA l c), sv (cutB l c), .bool (ixb l c).isSome]) := by
  refine Qf3 Tryd.func54 ?_
  refine Qs<|Qp ?_
  refine e_assign (v := sv []) rfl rfl ?_
  refine e_assign (v := sv []) rfl rfl ?_
  refine (Qa)<|Qn<|Qs<|Qp<|(Qm)<|(Qm) ?_
  refine e_call rfl (Un 74) (lcut_fn l c hl hc hz) rfl rfl ?_
  refine (Qx)<|(Qx)<|(Qx)<|(Qa)<|(Qa)<|(Qa)<|Qn<|Qr ?_
  exact ⟨_, _, _, rfl, .tmp rfl, .tmp rfl, .tmp rfl⟩
end Go.Proofs.YtejejmhbhegneaaDoor
