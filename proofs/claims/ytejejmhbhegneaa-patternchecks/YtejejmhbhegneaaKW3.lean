import Derived.Test.YtejejmhbhegneaaKW2
namespace Go.Proofs.Ytejejmhbhegneaa
open Go Go.RowKit
variable {G : Mem}
set_option maxHeartbeats 8000000 in
theorem fault_main (base : List Nat) (late : Bool) (vp v0 v1 vt : Value) (tvs : List Value) (q0 q1 : List Nat) (us : List (List Nat)) (hvt : Shows G 1 vt tvs.length tvs) (hLI : ShowsLI G (v0 :: v1 :: tvs) (ci q0 :: ci q1 :: us.map ci)) (hn1 : 1 ≤ tvs.length) (hn5 : tvs.length ≤ 5) (hf : first1 (ci q0 :: ci q1 :: us.map ci) = 0) (h06 : q0.length ≤ 6) (h16 : q1.length ≤ 6) (hu6 : ∀ u ∈ us, u.length ≤ 6) : Fn Try.prog G 5 #[.agg (cells 6 [pV (sv base), pV (.bool late), pV vp, pV v0, pV v1, pV vt])] (ii (fin3 (evL late q0 q1 us))) := by
  have hT := li_tail (li_tail hLI)
  have hv0 := li_head hLI
  have hv1 := li_head (li_tail hLI)
  have hvq := pre_shows hv0 hv1
  have htl : tvs.length = us.length := by have := hT.1; rwa [List.length_map] at this
  have hr7 := evL_rows (late := late) h06 h16 hu6
  obtain ⟨L, hL⟩ : ∃ L, L = evL late q0 q1 us := ⟨_, rfl⟩
  have hLl : L.length = 2 + us.length := by rw [hL]; exact evL_len
  have hLa : ∀ a, a < 2 → L.getD a [] = (qq q0 q1 a).map (fun x => (a, x)) := fun a ha => by rw [hL]; exact evL_pre ha
  have hLt : ∀ i, i < us.length → L.getD (2 + i) [] = (us.getD i [] ++ [0]).map (fun x => (whoT late i, x)) := fun i hi => by rw [hL]; exact evL_turn hi
  rw [← hL] at hr7 ⊢
  have hle := uptoE_le hr7
  have hq6 : ∀ a, (qq q0 q1 a).length ≤ 6 := fun a => by unfold qq; split <;> assumption
  have hug : ∀ i, i < us.length → (us.getD i []).length ≤ 6 := fun i hi => hu6 _ (by rw [List.getD_eq_getElem?_getD, List.getElem?_eq_getElem hi]; exact List.getElem_mem hi)
  refine Qf1 Try.func5 ?_
  refine Qs<|Qp<|(Qh 0) fun r1=>(Qa)<|Qn<|Qs<|Qs<|Qp<|(Qf 5)<|(QV 5 0)<|(QC hvt)<|(Qc)<|(Qaf)<|(Qm)<|(Qy)<|(Qf 5)<|(Qy)<|(QV 5 0)<|(Qy)<|(QC hvt)<|(Qy)<|(QG)<|(Qaf)<|(QF)<|Qn<|(Qcf)<|Qk<|Qs<|Qp<|(Qa)<|Qn<|Qs<|Qs<|Qp<|(Qf 3)<|(QA 3 0)<|(QV 3 0)<|(Qf 3)<|(QA 4 1)<|(QV 4 0) ?_
  refine e_buildSl 1 #[v0, v1] (Uu 24 rfl) (Uz 22 rfl) (Ub 22 rfl) (by decide) (by decide) rfl (fill_ones [v0, v1] 0 _ (by intro v hv; simp only [List.mem_cons, List.not_mem_nil, or_false] at hv; rcases hv with rfl | rfl; exact shows_one hv0; exact shows_one hv1) (by simp)) rfl fun r2 => ?_
  refine (Qf 5)<|(QV 5 0) ?_
  refine e_append 1 own_two hvt rfl seenG (Uu 24) (Uz 22) (Uy 22) (Ub 22) (by rfl) rfl rfl (li_one hT) (by simp only [maxLen]; omega) (by omega) rfl fun v2_1 oz2_1 ho2_1 => ?_
  refine e_callS rfl rfl (Un 8) (seen_app (seenM 1 rfl ⟨[], trivial⟩) seenG) (firstOf_fn (G := oz2_1.toList ++ G) _ (v0 :: v1 :: tvs) (ci q0 :: ci q1 :: us.map ci) (Shows.mono (OwnS.shows (own_fix ho2_1 (show _ = (v0 :: v1 :: tvs).length by simp; omega) rfl)) (fun x h => List.mem_append_left _ h)) (li_mono hLI (fun x h => List.mem_append_right _ h)) (by simp; omega)) rfl rfl ?_
  refine e_as (congrArg ii hf) ?_
  refine (Qa)<|Qn<|Qs<|Qp<|(Qm)<|(QN) ?_
  refine e_as (congrArg Value.bool (decide_eq_false (by decide))) ?_
  refine Qn<|(Qcf)<|Qk<|Qs<|Qs<|Qp<|(Qm)<|Qn<|Qb ?_
  refine QzK [(1, _)] [(0, _), (1, oz2_1)] (fun kk E m => ∃ (a : Nat) (w : Value) (oz : Option Blk), kk = 2 - a ∧ E = [(3, w), (39, ii a)] ∧ m = [(50, oz)] ∧ (a ≤ 2) ∧ (OwnS 34 2 w (uptoE L a 0).length ((uptoE L a 0).flatMap evC) (Option.toList oz)) ∧ (∀ s t, s < a → t < (L.getD s []).length → okAt L s t = true)) ⟨0, nilS, none, rfl, rfl, rfl, by omega, (own_fix (own_nil _ _) (by rw [uptoE_zero]; rfl) (by rw [uptoE_zero]; rfl)), fun _ _ h => absurd h (Nat.not_lt_zero _)⟩ ⟨rfl, rfl, rfl, trivial⟩ ⟨rfl, rfl, rfl, trivial⟩ ?_
  rintro kk E m ⟨a, w, oz, rfl, rfl, rfl, hf0_0, hf0_1, hf0_2⟩
  simp only [catE, catL]
  refine Qs<|Qp<|(Ql)<|Qn<|Qs ?_
  refine e_cond rfl ?_ ?_
  · intro hc2
    have hc2 : a < 2 := by have := of_decide_eq_true hc2; omega
    refine Qk<|Qs<|Qb<|Qs<|Qp<|(Qm)<|(Qa)<|Qn<|Qs<|Qp<|(Qm)<|(Qf 3)<|(QB (3 + a)) ?_
    refine e_load1 (i := 0) (Uu 22) rfl rfl rfl (pre_cell (by omega)) rfl ⟨[], trivial⟩ ?_
    refine (QC (hvq a (by omega)))<|(Qm)<|Qn<|Qb ?_
    refine QzK [(1, _), (5, _), (39, _), (45, _), (46, _)] [(0, _), (1, oz2_1)] (fun kk E m => ∃ (j : Nat) (w2 : Value) (oy : Option Blk), kk = (qq q0 q1 a).length - j ∧ E = [(3, w2), (47, ii j)] ∧ m = [(50, oy)] ∧ (j ≤ (qq q0 q1 a).length) ∧ (OwnS 34 2 w2 (uptoE L a j).length ((uptoE L a j).flatMap evC) (Option.toList oy)) ∧ (∀ t, t < j → okAt L a t = true)) ⟨0, w, oz, rfl, rfl, rfl, by omega, hf0_1, fun _ h => absurd h (Nat.not_lt_zero _)⟩ ⟨rfl, rfl, rfl, rfl, rfl, rfl, rfl, trivial⟩ ⟨rfl, rfl, rfl, trivial⟩ ?_
    rintro kk E m ⟨j, w2, oy, rfl, rfl, rfl, hf1_0, hf1_1, hf1_2⟩
    simp only [catE, catL]
    have hqa := hq6 a
    have hlen : (uptoE L a j).length ≤ 1000000 := by have := hle a j; omega
    have hrow : uptoE L a (qq q0 q1 a).length = uptoE L (a + 1) 0 := by rw [← uptoE_row (by omega), hLa a (by omega), List.length_map]
    refine Qs<|Qp<|(Ql)<|Qn<|Qs ?_
    refine e_cond rfl ?_ ?_
    · intro hc3
      have hc3 : j < (qq q0 q1 a).length := by have := of_decide_eq_true hc3; omega
      refine Qk<|Qs<|Qb<|Qs<|Qp ?_
      refine e_atV (hvq a (by omega)) (Uu 22) (Uz 3) rfl rfl (by omega) rfl ?_
      refine (QS) ?_
      refine e_loadV (hvq a (by omega)) seenG (Uu 3) rfl rfl (ci_at (by omega)) rfl ?_
      refine e_gen_i fun x hx => ?_
      refine (Qa)<|Qn ?_
      have he : (L.getD a []).getD j (0, 0) = (a, x) := by rw [hLa a (by omega), map_at (by omega), hx]
      have hjl : j < (L.getD a []).length := by rw [hLa a (by omega), List.length_map]; omega
      have hok := okAt_pre (by omega) he
      refine Qs<|Qs<|Qp ?_
      refine e_join [(1, _), (3, _), (5, _), (7, _), (39, _), (45, _), (46, _), (47, _), (48, _), (49, _), (50, _)] [(58, .bool (decide (2 < (x : Int)) || hap (uptoE L a j) a x))] [(0, some _), (1, oz2_1), (50, oy)] ⟨rfl, rfl, rfl, rfl, rfl, rfl, rfl, rfl, rfl, rfl, rfl, trivial⟩ ⟨rfl, rfl, rfl, trivial⟩ ?_ ?_
      · skip
        refine (Qm)<|(QG)<|(Qm) ?_
        refine e_case (b := decide (2 < (x : Int))) (fun hb0 => ?_) (fun hb0 => ?_)
        · skip
          refine (Qo)<|(Qo)<|(Qo)<|(Qo)<|(QT)<|Qn ?_
          exact ⟨⟨rfl, rfl, rfl, rfl, rfl, rfl, rfl, rfl, rfl, rfl, rfl, trivial⟩, ⟨bool_fin (by rw [hb0] <;> rfl), trivial⟩, ⟨rfl, rfl, rfl, trivial⟩⟩
        · skip
          refine (Qy)<|(Qm)<|(Qy)<|(Qm)<|(Qy)<|(Qm)<|(Qy) ?_
          refine e_callS rfl rfl (Un 9) (seenM 50 rfl ⟨[], trivial⟩) (happened_fn (G := Option.toList oy) w2 (uptoE L a j) a x hf1_1.shows hlen) rfl rfl ?_
          refine (QF)<|Qn ?_
          exact ⟨⟨rfl, rfl, rfl, rfl, rfl, rfl, rfl, rfl, rfl, rfl, rfl, trivial⟩, ⟨bool_fin (by rw [hb0] <;> rfl), trivial⟩, ⟨rfl, rfl, rfl, trivial⟩⟩
      · simp only [catE]
        refine e_cond rfl ?_ ?_
        · intro hc4
          rw [fin3_bad (i := a) (j := j) (by omega) hjl (by rw [hok, hc4]; rfl)]
          refine Qs<|Qp<|(Qa)<|Qn<|Qr ?_
          first | rw [fin3_ok (fun s t hs ht => by by_cases h2 : s < 2; exact hf0_2 s t h2 ht; (obtain ⟨s, rfl⟩ : ∃ r, s = 2 + r := ⟨s - 2, by omega⟩); exact hf2_2 s t (by omega) (by rw [hLt s (by omega), List.length_map, List.length_append] at ht; simpa using ht))] | skip
          exact ⟨_, rfl, .tmp rfl⟩
        · intro hc4
          have hcf : okAt L a j = true := by rw [hok, hc4]; rfl
          refine Qk<|Qp<|(Qm)<|(Qm)<|(Qm) ?_
          refine e_buildS (arr .i64 2 (ev2 (a, x))) (Ub 34 rfl) (Uu 34 rfl) pls34 rfl (by kernel_rfl) rfl ?_
          refine e_buildSl 2 (arr .i64 2 (ev2 (a, x))) (Uu 31 rfl) (Uz 34 rfl) (Ub 34 rfl) (by decide) (by decide) rfl (by kernel_rfl) rfl fun r3 => ?_
          refine e_append 50 hf1_1 (ev_shows _ _ (a, x)) rfl (seen1 2 rfl ⟨[], trivial⟩) (Uu 31) (Uz 34) (Uy 34) (Ub 34) (by rfl) rfl rfl (ev_one _) (by simp only [maxLen]; omega) (by omega) rfl fun v7_2 oz7_2 ho7_2 => ?_
          refine (Qa)<|Qn<|Qp<|(Q2 1)<|(Qm)<|Qn ?_
          refine QzL ⟨j + 1, _, _, rfl, rfl, rfl, by omega, (own_fix ho7_2 (by rw [uptoE_next hjl, List.length_append, he]; rfl) (by rw [uptoE_next hjl, ← ev_push, he])), fun t ht => by by_cases e : t = j; (subst e; exact hcf); exact hf1_2 t (by omega)⟩ ⟨rfl, rfl, rfl, rfl, rfl, rfl, rfl, trivial⟩ ⟨rfl, rfl, rfl, trivial⟩ ?_
          omega
    · intro hc3
      have hc3 := of_decide_eq_false hc3
      have hz1 : j = (qq q0 q1 a).length := by omega
      refine Qe<|Qp<|(Q2 1)<|(Qm)<|Qn ?_
      refine QzL ⟨a + 1, _, _, rfl, rfl, rfl, by omega, (own_fix hf1_1 (by rw [hz1, hrow]) (by rw [hz1, hrow])), fun s t hs ht => by by_cases e : s = a; (subst e; rw [hLa s (by omega), List.length_map] at ht; exact hf1_2 t (by omega)); exact hf0_2 s t (by omega) ht⟩ ⟨rfl, rfl, rfl, trivial⟩ ⟨rfl, rfl, rfl, trivial⟩ ?_
      omega
  · intro hc2
    have hc2 := of_decide_eq_false hc2
    have hz0 : a = 2 := by omega
    subst hz0
    refine Qe<|Qs<|Qs<|Qp<|(Qf 5)<|(QV 5 0)<|(QC hvt)<|(Qm)<|Qn<|Qb ?_
    refine QzK [(1, _), (39, _), (68, _), (69, _)] [(0, _), (1, oz2_1)] (fun kk E m => ∃ (i : Nat) (w3 : Value) (ox : Option Blk), kk = tvs.length - i ∧ E = [(3, w3), (70, ii i)] ∧ m = [(50, ox)] ∧ (i ≤ tvs.length) ∧ (OwnS 34 2 w3 (uptoE L (2 + i) 0).length ((uptoE L (2 + i) 0).flatMap evC) (Option.toList ox)) ∧ (∀ s t, s < i → t < (us.getD s []).length + 1 → okAt L (2 + s) t = true)) ⟨0, w, oz, rfl, rfl, rfl, by omega, hf0_1, fun _ _ h => absurd h (Nat.not_lt_zero _)⟩ ⟨rfl, rfl, rfl, rfl, rfl, rfl, trivial⟩ ⟨rfl, rfl, rfl, trivial⟩ ?_
    rintro kk E m ⟨i, w3, ox, rfl, rfl, rfl, hf2_0, hf2_1, hf2_2⟩
    simp only [catE, catL]
    refine Qs<|Qp<|(Ql)<|Qn<|Qs ?_
    refine e_cond rfl ?_ ?_
    · intro hc5
      have hc5 : i < tvs.length := by have := of_decide_eq_true hc5; omega
      refine Qk<|Qs<|Qb<|Qs<|Qp<|(Qm) ?_
      refine e_atV hvt (Uu 24) (Uz 22) rfl rfl (by omega) rfl ?_
      refine (QS) ?_
      refine e_loadV hvt seenG (Uu 22) rfl rfl (get_getD (by omega)) rfl ?_
      refine (Qa)<|(Qa)<|Qn<|Qs<|Qp<|(Qm)<|(Q4 2)<|(Qa)<|Qn<|Qs<|Qs<|Qp<|(Qf 1)<|(QV 1 0)<|Qn ?_
      refine s_join [(1, _), (3, _), (8, _), (9, _), (39, _), (68, _), (69, _), (70, _), (71, _), (72, _), (73, _), (74, _), (75, _), (76, _), (77, _), (78, _)] [(10, ii (whoT late i))] [(0, some _), (1, oz2_1), (50, ox)] ⟨rfl, rfl, rfl, rfl, rfl, rfl, rfl, rfl, rfl, rfl, rfl, rfl, rfl, rfl, rfl, rfl, trivial⟩ ⟨rfl, rfl, rfl, trivial⟩ ?_ ?_
      · skip
        refine e_cond rfl ?_ ?_
        · intro hc6
          have hcL := hc6
          refine Qp<|(Qm)<|(Q2 1)<|(Q4 2)<|(Qa)<|Qn ?_
          exact ⟨⟨rfl, rfl, rfl, rfl, rfl, rfl, rfl, rfl, rfl, rfl, rfl, rfl, rfl, rfl, rfl, rfl, trivial⟩, ⟨(by rw [whoT, hcL] <;> rfl), trivial⟩, ⟨rfl, rfl, rfl, trivial⟩⟩
        · intro hc6
          have hcL := hc6
          refine Qk ?_
          exact ⟨⟨rfl, rfl, rfl, rfl, rfl, rfl, rfl, rfl, rfl, rfl, rfl, rfl, rfl, rfl, rfl, rfl, trivial⟩, ⟨(by rw [whoT, hcL] <;> rfl), trivial⟩, ⟨rfl, rfl, rfl, trivial⟩⟩
      · simp only [catE]
        refine Qs<|Qp ?_
        refine e_buildSl0 2 (Uu 22 rfl) (Uz 3 rfl) rfl fun r3 => ?_
        refine (Qm) ?_
        refine e_append 2 own_none (li_at hT (by omega)) rfl seenG (Uu 22) (Uz 3) (Uy 3) (Ub 3) (by rfl) rfl rfl iv_one (by have := hug i (by omega); simp only [maxLen]; omega) (by have := hug i (by omega); omega) rfl fun v6_2 oz6_2 ho6_2 => ?_
        refine e_buildSl 3 #[ii 0] (Uu 22 rfl) (Uz 3 rfl) (Ub 3 rfl) (by decide) (by decide) rfl (by kernel_rfl) rfl fun r4 => ?_
        refine e_append 2 ho6_2 (shows_new _ _ (by rfl)) rfl (seen1 3 rfl ⟨[], trivial⟩) (Uu 22) (Uz 3) (Uy 3) (Ub 3) (by rfl) rfl rfl (by simp; rfl) (by have := hug i (by omega); simp only [maxLen]; omega) (by have := hug i (by omega); omega) rfl fun v6_3 oz6_3 ho6_3 => ?_
        refine (QC ho6_3.shows) ?_
        refine e_as (congrArg ii (show _ = (us.getD i []).length + 1 by omega)) ?_
        refine (Qm)<|Qn<|Qb ?_
        refine QzK [(1, _), (10, _), (39, _), (68, _), (69, _), (70, _), (86, _), (87, _)] [(0, _), (1, oz2_1), (2, oz6_3), (3, _)] (fun kk E m => ∃ (p : Nat) (w4 : Value) (ow : Option Blk), kk = ((us.getD i []).length + 1) - p ∧ E = [(3, w4), (88, ii p)] ∧ m = [(50, ow)] ∧ (p ≤ ((us.getD i []).length + 1)) ∧ (OwnS 34 2 w4 (uptoE L (2 + i) p).length ((uptoE L (2 + i) p).flatMap evC) (Option.toList ow)) ∧ (∀ t, t < p → okAt L (2 + i) t = true)) ⟨0, w3, ox, rfl, rfl, rfl, by omega, hf2_1, fun _ h => absurd h (Nat.not_lt_zero _)⟩ ⟨rfl, rfl, rfl, rfl, rfl, rfl, rfl, rfl, rfl, rfl, trivial⟩ ⟨rfl, rfl, rfl, rfl, rfl, trivial⟩ ?_
        rintro kk E m ⟨p, w4, ow, rfl, rfl, rfl, hf3_0, hf3_1, hf3_2⟩
        simp only [catE, catL]
        have hui := hug i (by omega)
        have hlen : (uptoE L (2 + i) p).length ≤ 1000000 := by have := hle (2 + i) p; omega
        have hrow3 : uptoE L (2 + i) ((us.getD i []).length + 1) = uptoE L (2 + (i + 1)) 0 := by rw [show 2 + (i + 1) = 2 + i + 1 by omega, ← uptoE_row (by omega), hLt i (by omega), List.length_map, List.length_append]; rfl
        refine Qs<|Qp<|(Ql)<|Qn<|Qs ?_
        refine e_cond rfl ?_ ?_
        · intro hc7
          have hc7 : p < ((us.getD i []).length + 1) := by have := of_decide_eq_true hc7; omega
          refine Qk<|Qs<|Qb<|Qs<|Qp ?_
          refine e_atV ho6_3.shows (Uu 22) (Uz 3) rfl rfl (by omega) rfl ?_
          refine (QS) ?_
          refine e_loadV ho6_3.shows (seenM 2 rfl ⟨[], trivial⟩) (Uu 3) rfl rfl (tok_at (by omega)) rfl ?_
          refine e_gen_i fun y hy => ?_
          refine (Qa)<|Qn ?_
          have he : (L.getD (2 + i) []).getD p (0, 0) = (whoT late i, y) := by rw [hLt i (by omega), map_at (by rw [List.length_append]; exact hc7), hy]
          have hjl : p < (L.getD (2 + i) []).length := by rw [hLt i (by omega), List.length_map, List.length_append]; exact hc7
          have hok := okAt_turn he
          refine Qs<|Qp ?_
          refine e_join [(1, _), (3, _), (10, _), (12, _), (39, _), (68, _), (69, _), (70, _), (86, _), (87, _), (88, _), (89, _), (90, _), (91, _)] [(13, .bool (locksE (uptoE L (2 + i) p)))] [(0, some _), (1, oz2_1), (2, oz6_3), (3, some _), (50, ow)] ⟨rfl, rfl, rfl, rfl, rfl, rfl, rfl, rfl, rfl, rfl, rfl, rfl, rfl, rfl, trivial⟩ ⟨rfl, rfl, rfl, rfl, rfl, trivial⟩ ?_ ?_
          · skip
            refine (Qm) ?_
            refine e_callS rfl rfl (Un 9) (seenM 50 rfl ⟨[], trivial⟩) (happened_fn (G := Option.toList ow) w4 (uptoE L (2 + i) p) (-1) 3 hf3_1.shows hlen) rfl rfl ?_
            refine (Qm) ?_
            refine e_case (b := hap (uptoE L (2 + i) p) (-1) 3) (fun hb1 => ?_) (fun hb1 => ?_)
            · skip
              refine (Qo)<|(Qo)<|(QT)<|(Qm)<|(Qo)<|(Qo)<|(QT)<|(Qm)<|(Qo)<|(Qo)<|(QT)<|(Qm)<|(Qo)<|(Qo)<|(QT)<|(Qa)<|Qn ?_
              exact ⟨⟨rfl, rfl, rfl, rfl, rfl, rfl, rfl, rfl, rfl, rfl, rfl, rfl, rfl, rfl, trivial⟩, ⟨bool_fin (by rw [locksE, hb1] <;> rfl), trivial⟩, ⟨rfl, rfl, rfl, rfl, rfl, trivial⟩⟩
            · skip
              refine (Qy)<|(Qm)<|(Qy) ?_
              refine e_callS rfl rfl (Un 9) (seenM 50 rfl ⟨[], trivial⟩) (happened_fn (G := Option.toList ow) w4 (uptoE L (2 + i) p) (-1) 4 hf3_1.shows hlen) rfl rfl ?_
              refine (QF)<|(Qm) ?_
              refine e_case (b := hap (uptoE L (2 + i) p) (-1) 4) (fun hb2 => ?_) (fun hb2 => ?_)
              · skip
                refine (Qo)<|(Qo)<|(QT)<|(Qm)<|(Qo)<|(Qo)<|(QT)<|(Qm)<|(Qo)<|(Qo)<|(QT)<|(Qa)<|Qn ?_
                exact ⟨⟨rfl, rfl, rfl, rfl, rfl, rfl, rfl, rfl, rfl, rfl, rfl, rfl, rfl, rfl, trivial⟩, ⟨bool_fin (by rw [locksE, hb1, hb2] <;> rfl), trivial⟩, ⟨rfl, rfl, rfl, rfl, rfl, trivial⟩⟩
              · skip
                refine (Qy)<|(Qm)<|(Qy) ?_
                refine e_callS rfl rfl (Un 9) (seenM 50 rfl ⟨[], trivial⟩) (happened_fn (G := Option.toList ow) w4 (uptoE L (2 + i) p) (-1) 5 hf3_1.shows hlen) rfl rfl ?_
                refine (QF)<|(Qm) ?_
                refine e_case (b := hap (uptoE L (2 + i) p) (-1) 5) (fun hb3 => ?_) (fun hb3 => ?_)
                · skip
                  refine (Qo)<|(Qo)<|(QT)<|(Qm)<|(Qo)<|(Qo)<|(QT)<|(Qa)<|Qn ?_
                  exact ⟨⟨rfl, rfl, rfl, rfl, rfl, rfl, rfl, rfl, rfl, rfl, rfl, rfl, rfl, rfl, trivial⟩, ⟨bool_fin (by rw [locksE, hb1, hb2, hb3] <;> rfl), trivial⟩, ⟨rfl, rfl, rfl, rfl, rfl, trivial⟩⟩
                · skip
                  refine (Qy)<|(Qm)<|(Qy) ?_
                  refine e_callS rfl rfl (Un 9) (seenM 50 rfl ⟨[], trivial⟩) (happened_fn (G := Option.toList ow) w4 (uptoE L (2 + i) p) (-1) 6 hf3_1.shows hlen) rfl rfl ?_
                  refine (QF)<|(Qm) ?_
                  refine e_case (b := hap (uptoE L (2 + i) p) (-1) 6) (fun hb4 => ?_) (fun hb4 => ?_)
                  · skip
                    refine (Qo)<|(Qo)<|(QT)<|(Qa)<|Qn ?_
                    exact ⟨⟨rfl, rfl, rfl, rfl, rfl, rfl, rfl, rfl, rfl, rfl, rfl, rfl, rfl, rfl, trivial⟩, ⟨bool_fin (by rw [locksE, hb1, hb2, hb3, hb4] <;> rfl), trivial⟩, ⟨rfl, rfl, rfl, rfl, rfl, trivial⟩⟩
                  · skip
                    refine (Qy)<|(Qm)<|(Qy) ?_
                    refine e_callS rfl rfl (Un 9) (seenM 50 rfl ⟨[], trivial⟩) (happened_fn (G := Option.toList ow) w4 (uptoE L (2 + i) p) (-1) 7 hf3_1.shows hlen) rfl rfl ?_
                    refine (QF)<|(Qa)<|Qn ?_
                    exact ⟨⟨rfl, rfl, rfl, rfl, rfl, rfl, rfl, rfl, rfl, rfl, rfl, rfl, rfl, rfl, trivial⟩, ⟨bool_fin (by rw [locksE, hb1, hb2, hb3, hb4] <;> rfl), trivial⟩, ⟨rfl, rfl, rfl, rfl, rfl, trivial⟩⟩
          · simp only [catE]
            refine Qs<|Qp<|(Qa)<|Qn<|Qs<|Qs<|Qp<|(Qm)<|Qn<|Qb<|Qs<|Qp<|(Qc)<|(Qa)<|Qn ?_
            refine s_join [(1, _), (3, _), (10, _), (12, _), (13, _), (39, _), (68, _), (69, _), (70, _), (86, _), (87, _), (88, _), (89, _), (90, _), (91, _), (110, _), (111, _), (112, _)] [(14, .bool (okT (uptoE L (2 + i) p) (whoT late i) y))] [(0, some _), (1, oz2_1), (2, oz6_3), (3, some _), (50, ow)] ⟨rfl, rfl, rfl, rfl, rfl, rfl, rfl, rfl, rfl, rfl, rfl, rfl, rfl, rfl, rfl, rfl, rfl, rfl, trivial⟩ ⟨rfl, rfl, rfl, rfl, rfl, trivial⟩ ?_ ?_
            · skip
              refine e_cond rfl ?_ ?_
              · intro hc8
                have hk0 : y = 0 := by have := of_decide_eq_true hc8; omega
                refine Qp ?_
                refine e_join [(1, _), (3, _), (10, _), (12, _), (13, _), (39, _), (68, _), (69, _), (70, _), (86, _), (87, _), (88, _), (89, _), (90, _), (91, _), (110, _), (111, _), (112, _)] [(14, .bool (!(locksE (uptoE L (2 + i) p)) || mlock (uptoE L (2 + i) p) (whoT late i)))] [(0, some _), (1, oz2_1), (2, oz6_3), (3, some _), (50, ow)] ⟨rfl, rfl, rfl, rfl, rfl, rfl, rfl, rfl, rfl, rfl, rfl, rfl, rfl, rfl, rfl, rfl, rfl, rfl, trivial⟩ ⟨rfl, rfl, rfl, rfl, rfl, trivial⟩ ?_ ?_
                · skip
                  refine (Qm)<|(Q0)<|(Qm) ?_
                  refine e_case (b := !(locksE (uptoE L (2 + i) p))) (fun hb5 => ?_) (fun hb5 => ?_)
                  · skip
                    refine (Qo)<|(Qo)<|(Qo)<|(QT)<|(Qa)<|Qn ?_
                    exact ⟨⟨rfl, rfl, rfl, rfl, rfl, rfl, rfl, rfl, rfl, rfl, rfl, rfl, rfl, rfl, rfl, rfl, rfl, rfl, trivial⟩, ⟨bool_fin (by rw [hb5] <;> rfl), trivial⟩, ⟨rfl, rfl, rfl, rfl, rfl, trivial⟩⟩
                  · skip
                    refine (Qy)<|(Qm)<|(Qy)<|(Qm)<|(Qy) ?_
                    refine e_callS rfl rfl (Un 10) (seenM 50 rfl ⟨[], trivial⟩) (mayLock_fn (G := Option.toList ow) w4 (uptoE L (2 + i) p) (whoT late i) hf3_1.shows hlen) rfl rfl ?_
                    refine (QF)<|(Qa)<|Qn ?_
                    exact ⟨⟨rfl, rfl, rfl, rfl, rfl, rfl, rfl, rfl, rfl, rfl, rfl, rfl, rfl, rfl, rfl, rfl, rfl, rfl, trivial⟩, ⟨bool_fin (by rw [hb5] <;> rfl), trivial⟩, ⟨rfl, rfl, rfl, rfl, rfl, trivial⟩⟩
                · simp only [catE]
                  exact ⟨⟨rfl, rfl, rfl, rfl, rfl, rfl, rfl, rfl, rfl, rfl, rfl, rfl, rfl, rfl, rfl, rfl, rfl, rfl, trivial⟩, ⟨(bool_fin (by first | (rw [okT, if_pos hk0]) | (rw [okT, if_neg hk0, if_pos hk1]) | (rw [okT, if_neg hk0, if_neg hk1, if_pos hk2]) | (rw [okT, if_neg hk0, if_neg hk1, if_neg hk2, if_pos hk3]) | (rw [okT, if_neg hk0, if_neg hk1, if_neg hk2, if_neg hk3, if_pos hk4]) | (rw [okT, if_neg hk0, if_neg hk1, if_neg hk2, if_neg hk3, if_neg hk4, if_pos hk5]) | (rw [okT, if_neg hk0, if_neg hk1, if_neg hk2, if_neg hk3, if_neg hk4, if_neg hk5, if_pos hk6]) | (rw [okT, if_neg hk0, if_neg hk1, if_neg hk2, if_neg hk3, if_neg hk4, if_neg hk5, if_neg hk6]))), trivial⟩, ⟨rfl, rfl, rfl, rfl, rfl, trivial⟩⟩
              · intro hc8
                have hk0 : ¬ y = 0 := by have := of_decide_eq_false hc8; omega
                refine Qs<|Qp<|(Qc)<|(Qa)<|Qn ?_
                refine e_cond rfl ?_ ?_
                · intro hc9
                  have hk1 : y = 1 := by have := of_decide_eq_true hc9; omega
                  refine Qp<|(Qm)<|(Qm) ?_
                  refine e_callS rfl rfl (Un 9) (seenM 50 rfl ⟨[], trivial⟩) (happened_fn (G := Option.toList ow) w4 (uptoE L (2 + i) p) (whoT late i) 1 hf3_1.shows hlen) rfl rfl ?_
                  refine (Q0)<|(Qa)<|Qn ?_
                  exact ⟨⟨rfl, rfl, rfl, rfl, rfl, rfl, rfl, rfl, rfl, rfl, rfl, rfl, rfl, rfl, rfl, rfl, rfl, rfl, trivial⟩, ⟨(bool_fin (by first | (rw [okT, if_pos hk0]) | (rw [okT, if_neg hk0, if_pos hk1]) | (rw [okT, if_neg hk0, if_neg hk1, if_pos hk2]) | (rw [okT, if_neg hk0, if_neg hk1, if_neg hk2, if_pos hk3]) | (rw [okT, if_neg hk0, if_neg hk1, if_neg hk2, if_neg hk3, if_pos hk4]) | (rw [okT, if_neg hk0, if_neg hk1, if_neg hk2, if_neg hk3, if_neg hk4, if_pos hk5]) | (rw [okT, if_neg hk0, if_neg hk1, if_neg hk2, if_neg hk3, if_neg hk4, if_neg hk5, if_pos hk6]) | (rw [okT, if_neg hk0, if_neg hk1, if_neg hk2, if_neg hk3, if_neg hk4, if_neg hk5, if_neg hk6]))), trivial⟩, ⟨rfl, rfl, rfl, rfl, rfl, trivial⟩⟩
                · intro hc9
                  have hk1 : ¬ y = 1 := by have := of_decide_eq_false hc9; omega
                  refine Qs<|Qp<|(Qc)<|(Qa)<|Qn ?_
                  refine e_cond rfl ?_ ?_
                  · intro hc10
                    have hk2 : y = 2 := by have := of_decide_eq_true hc10; omega
                    refine Qp ?_
                    refine e_join [(1, _), (3, _), (10, _), (12, _), (13, _), (39, _), (68, _), (69, _), (70, _), (86, _), (87, _), (88, _), (89, _), (90, _), (91, _), (110, _), (111, _), (112, _), (120, _), (121, _), (126, _), (127, _)] [(14, .bool (!(hap (uptoE L (2 + i) p) (whoT late i) 2) && (!(locksE (uptoE L (2 + i) p)) || mlock (uptoE L (2 + i) p) (whoT late i))))] [(0, some _), (1, oz2_1), (2, oz6_3), (3, some _), (50, ow)] ⟨rfl, rfl, rfl, rfl, rfl, rfl, rfl, rfl, rfl, rfl, rfl, rfl, rfl, rfl, rfl, rfl, rfl, rfl, rfl, rfl, rfl, rfl, trivial⟩ ⟨rfl, rfl, rfl, rfl, rfl, trivial⟩ ?_ ?_
                    · skip
                      refine (Qm)<|(Qm) ?_
                      refine e_callS rfl rfl (Un 9) (seenM 50 rfl ⟨[], trivial⟩) (happened_fn (G := Option.toList ow) w4 (uptoE L (2 + i) p) (whoT late i) 2 hf3_1.shows hlen) rfl rfl ?_
                      refine (Q0)<|(Qm) ?_
                      refine e_case (b := !(hap (uptoE L (2 + i) p) (whoT late i) 2)) (fun hb6 => ?_) (fun hb6 => ?_)
                      · skip
                        refine (Qy)<|(Qm)<|(Qy)<|(Q0)<|(Qy)<|(Qm) ?_
                        refine e_case (b := !(locksE (uptoE L (2 + i) p))) (fun hb7 => ?_) (fun hb7 => ?_)
                        · skip
                          refine (Qo)<|(Qo)<|(Qo)<|(Qy)<|(QT)<|(QT)<|(Qa)<|Qn ?_
                          exact ⟨⟨rfl, rfl, rfl, rfl, rfl, rfl, rfl, rfl, rfl, rfl, rfl, rfl, rfl, rfl, rfl, rfl, rfl, rfl, rfl, rfl, rfl, rfl, trivial⟩, ⟨bool_fin (by rw [hb6, hb7] <;> rfl), trivial⟩, ⟨rfl, rfl, rfl, rfl, rfl, trivial⟩⟩
                        · skip
                          refine (Qy)<|(Qm)<|(Qy)<|(Qm)<|(Qy) ?_
                          refine e_callS rfl rfl (Un 10) (seenM 50 rfl ⟨[], trivial⟩) (mayLock_fn (G := Option.toList ow) w4 (uptoE L (2 + i) p) (whoT late i) hf3_1.shows hlen) rfl rfl ?_
                          refine (Qy)<|(QF)<|(QT)<|(Qa)<|Qn ?_
                          exact ⟨⟨rfl, rfl, rfl, rfl, rfl, rfl, rfl, rfl, rfl, rfl, rfl, rfl, rfl, rfl, rfl, rfl, rfl, rfl, rfl, rfl, rfl, rfl, trivial⟩, ⟨bool_fin (by rw [hb6, hb7] <;> rfl), trivial⟩, ⟨rfl, rfl, rfl, rfl, rfl, trivial⟩⟩
                      · skip
                        refine (Qo)<|(Qo)<|(Qo)<|(Qw)<|(Qw)<|(Qw)<|(Qo)<|(QF)<|(Qa)<|Qn ?_
                        exact ⟨⟨rfl, rfl, rfl, rfl, rfl, rfl, rfl, rfl, rfl, rfl, rfl, rfl, rfl, rfl, rfl, rfl, rfl, rfl, rfl, rfl, rfl, rfl, trivial⟩, ⟨bool_fin (by rw [hb6] <;> rfl), trivial⟩, ⟨rfl, rfl, rfl, rfl, rfl, trivial⟩⟩
                    · simp only [catE]
                      exact ⟨⟨rfl, rfl, rfl, rfl, rfl, rfl, rfl, rfl, rfl, rfl, rfl, rfl, rfl, rfl, rfl, rfl, rfl, rfl, trivial⟩, ⟨(bool_fin (by first | (rw [okT, if_pos hk0]) | (rw [okT, if_neg hk0, if_pos hk1]) | (rw [okT, if_neg hk0, if_neg hk1, if_pos hk2]) | (rw [okT, if_neg hk0, if_neg hk1, if_neg hk2, if_pos hk3]) | (rw [okT, if_neg hk0, if_neg hk1, if_neg hk2, if_neg hk3, if_pos hk4]) | (rw [okT, if_neg hk0, if_neg hk1, if_neg hk2, if_neg hk3, if_neg hk4, if_pos hk5]) | (rw [okT, if_neg hk0, if_neg hk1, if_neg hk2, if_neg hk3, if_neg hk4, if_neg hk5, if_pos hk6]) | (rw [okT, if_neg hk0, if_neg hk1, if_neg hk2, if_neg hk3, if_neg hk4, if_neg hk5, if_neg hk6]))), trivial⟩, ⟨rfl, rfl, rfl, rfl, rfl, trivial⟩⟩
                  · intro hc10
                    have hk2 : ¬ y = 2 := by have := of_decide_eq_false hc10; omega
                    refine Qs<|Qp<|(Qc)<|(Qa)<|Qn ?_
                    refine e_cond rfl ?_ ?_
                    · intro hc11
                      have hk3 : y = 3 := by have := of_decide_eq_true hc11; omega
                      refine Qp ?_
                      refine e_join [(1, _), (3, _), (10, _), (12, _), (13, _), (39, _), (68, _), (69, _), (70, _), (86, _), (87, _), (88, _), (89, _), (90, _), (91, _), (110, _), (111, _), (112, _), (120, _), (121, _), (126, _), (127, _), (141, _), (142, _)] [(14, .bool ((hap (uptoE L (2 + i) p) 0 1 && hap (uptoE L (2 + i) p) 1 1) && !(hap (uptoE L (2 + i) p) (-1) y)))] [(0, some _), (1, oz2_1), (2, oz6_3), (3, some _), (50, ow)] ⟨rfl, rfl, rfl, rfl, rfl, rfl, rfl, rfl, rfl, rfl, rfl, rfl, rfl, rfl, rfl, rfl, rfl, rfl, rfl, rfl, rfl, rfl, rfl, rfl, trivial⟩ ⟨rfl, rfl, rfl, rfl, rfl, trivial⟩ ?_ ?_
                      · skip
                        refine (Qm) ?_
                        refine e_callS rfl rfl (Un 9) (seenM 50 rfl ⟨[], trivial⟩) (happened_fn (G := Option.toList ow) w4 (uptoE L (2 + i) p) 0 1 hf3_1.shows hlen) rfl rfl ?_
                        refine (Qm) ?_
                        refine e_case (b := hap (uptoE L (2 + i) p) 0 1) (fun hb8 => ?_) (fun hb8 => ?_)
                        · skip
                          refine (Qy)<|(Qm)<|(Qy) ?_
                          refine e_callS rfl rfl (Un 9) (seenM 50 rfl ⟨[], trivial⟩) (happened_fn (G := Option.toList ow) w4 (uptoE L (2 + i) p) 1 1 hf3_1.shows hlen) rfl rfl ?_
                          refine (QT)<|(Qm) ?_
                          refine e_case (b := hap (uptoE L (2 + i) p) 1 1) (fun hb9 => ?_) (fun hb9 => ?_)
                          · skip
                            refine (Qy)<|(Qm)<|(Qy)<|(Qm)<|(Qy) ?_
                            refine e_callS rfl rfl (Un 9) (seenM 50 rfl ⟨[], trivial⟩) (happened_fn (G := Option.toList ow) w4 (uptoE L (2 + i) p) (-1) y hf3_1.shows hlen) rfl rfl ?_
                            refine (Qy)<|(Q0)<|(QT)<|(Qa)<|Qn ?_
                            exact ⟨⟨rfl, rfl, rfl, rfl, rfl, rfl, rfl, rfl, rfl, rfl, rfl, rfl, rfl, rfl, rfl, rfl, rfl, rfl, rfl, rfl, rfl, rfl, rfl, rfl, trivial⟩, ⟨bool_fin (by rw [hb8, hb9] <;> rfl), trivial⟩, ⟨rfl, rfl, rfl, rfl, rfl, trivial⟩⟩
                          · skip
                            refine (Qo)<|(Qo)<|(Qo)<|(Qo)<|(QF)<|(Qa)<|Qn ?_
                            exact ⟨⟨rfl, rfl, rfl, rfl, rfl, rfl, rfl, rfl, rfl, rfl, rfl, rfl, rfl, rfl, rfl, rfl, rfl, rfl, rfl, rfl, rfl, rfl, rfl, rfl, trivial⟩, ⟨bool_fin (by rw [hb8, hb9] <;> rfl), trivial⟩, ⟨rfl, rfl, rfl, rfl, rfl, trivial⟩⟩
                        · skip
                          refine (Qo)<|(Qo)<|(QF)<|(Qm)<|(Qo)<|(Qo)<|(Qo)<|(Qo)<|(QF)<|(Qa)<|Qn ?_
                          exact ⟨⟨rfl, rfl, rfl, rfl, rfl, rfl, rfl, rfl, rfl, rfl, rfl, rfl, rfl, rfl, rfl, rfl, rfl, rfl, rfl, rfl, rfl, rfl, rfl, rfl, trivial⟩, ⟨bool_fin (by rw [hb8] <;> rfl), trivial⟩, ⟨rfl, rfl, rfl, rfl, rfl, trivial⟩⟩
                      · simp only [catE]
                        exact ⟨⟨rfl, rfl, rfl, rfl, rfl, rfl, rfl, rfl, rfl, rfl, rfl, rfl, rfl, rfl, rfl, rfl, rfl, rfl, trivial⟩, ⟨(bool_fin (by first | (rw [okT, if_pos hk0]) | (rw [okT, if_neg hk0, if_pos hk1]) | (rw [okT, if_neg hk0, if_neg hk1, if_pos hk2]) | (rw [okT, if_neg hk0, if_neg hk1, if_neg hk2, if_pos hk3]) | (rw [okT, if_neg hk0, if_neg hk1, if_neg hk2, if_neg hk3, if_pos hk4]) | (rw [okT, if_neg hk0, if_neg hk1, if_neg hk2, if_neg hk3, if_neg hk4, if_pos hk5]) | (rw [okT, if_neg hk0, if_neg hk1, if_neg hk2, if_neg hk3, if_neg hk4, if_neg hk5, if_pos hk6]) | (rw [okT, if_neg hk0, if_neg hk1, if_neg hk2, if_neg hk3, if_neg hk4, if_neg hk5, if_neg hk6]))), trivial⟩, ⟨rfl, rfl, rfl, rfl, rfl, trivial⟩⟩
                    · intro hc11
                      have hk3 : ¬ y = 3 := by have := of_decide_eq_false hc11; omega
                      refine Qs<|Qp<|(Qc)<|(Qa)<|Qn ?_
                      refine e_cond rfl ?_ ?_
                      · intro hc12
                        have hk4 : y = 4 := by have := of_decide_eq_true hc12; omega
                        refine Qp ?_
                        refine e_join [(1, _), (3, _), (10, _), (12, _), (13, _), (39, _), (68, _), (69, _), (70, _), (86, _), (87, _), (88, _), (89, _), (90, _), (91, _), (110, _), (111, _), (112, _), (120, _), (121, _), (126, _), (127, _), (141, _), (142, _), (155, _), (156, _)] [(14, .bool ((hap (uptoE L (2 + i) p) 0 1 && hap (uptoE L (2 + i) p) 1 2) && !(hap (uptoE L (2 + i) p) (-1) y)))] [(0, some _), (1, oz2_1), (2, oz6_3), (3, some _), (50, ow)] ⟨rfl, rfl, rfl, rfl, rfl, rfl, rfl, rfl, rfl, rfl, rfl, rfl, rfl, rfl, rfl, rfl, rfl, rfl, rfl, rfl, rfl, rfl, rfl, rfl, rfl, rfl, trivial⟩ ⟨rfl, rfl, rfl, rfl, rfl, trivial⟩ ?_ ?_
                        · skip
                          refine (Qm) ?_
                          refine e_callS rfl rfl (Un 9) (seenM 50 rfl ⟨[], trivial⟩) (happened_fn (G := Option.toList ow) w4 (uptoE L (2 + i) p) 0 1 hf3_1.shows hlen) rfl rfl ?_
                          refine (Qm) ?_
                          refine e_case (b := hap (uptoE L (2 + i) p) 0 1) (fun hb10 => ?_) (fun hb10 => ?_)
                          · skip
                            refine (Qy)<|(Qm)<|(Qy) ?_
                            refine e_callS rfl rfl (Un 9) (seenM 50 rfl ⟨[], trivial⟩) (happened_fn (G := Option.toList ow) w4 (uptoE L (2 + i) p) 1 2 hf3_1.shows hlen) rfl rfl ?_
                            refine (QT)<|(Qm) ?_
                            refine e_case (b := hap (uptoE L (2 + i) p) 1 2) (fun hb11 => ?_) (fun hb11 => ?_)
                            · skip
                              refine (Qy)<|(Qm)<|(Qy)<|(Qm)<|(Qy) ?_
                              refine e_callS rfl rfl (Un 9) (seenM 50 rfl ⟨[], trivial⟩) (happened_fn (G := Option.toList ow) w4 (uptoE L (2 + i) p) (-1) y hf3_1.shows hlen) rfl rfl ?_
                              refine (Qy)<|(Q0)<|(QT)<|(Qa)<|Qn ?_
                              exact ⟨⟨rfl, rfl, rfl, rfl, rfl, rfl, rfl, rfl, rfl, rfl, rfl, rfl, rfl, rfl, rfl, rfl, rfl, rfl, rfl, rfl, rfl, rfl, rfl, rfl, rfl, rfl, trivial⟩, ⟨bool_fin (by rw [hb10, hb11] <;> rfl), trivial⟩, ⟨rfl, rfl, rfl, rfl, rfl, trivial⟩⟩
                            · skip
                              refine (Qo)<|(Qo)<|(Qo)<|(Qo)<|(QF)<|(Qa)<|Qn ?_
                              exact ⟨⟨rfl, rfl, rfl, rfl, rfl, rfl, rfl, rfl, rfl, rfl, rfl, rfl, rfl, rfl, rfl, rfl, rfl, rfl, rfl, rfl, rfl, rfl, rfl, rfl, rfl, rfl, trivial⟩, ⟨bool_fin (by rw [hb10, hb11] <;> rfl), trivial⟩, ⟨rfl, rfl, rfl, rfl, rfl, trivial⟩⟩
                          · skip
                            refine (Qo)<|(Qo)<|(QF)<|(Qm)<|(Qo)<|(Qo)<|(Qo)<|(Qo)<|(QF)<|(Qa)<|Qn ?_
                            exact ⟨⟨rfl, rfl, rfl, rfl, rfl, rfl, rfl, rfl, rfl, rfl, rfl, rfl, rfl, rfl, rfl, rfl, rfl, rfl, rfl, rfl, rfl, rfl, rfl, rfl, rfl, rfl, trivial⟩, ⟨bool_fin (by rw [hb10] <;> rfl), trivial⟩, ⟨rfl, rfl, rfl, rfl, rfl, trivial⟩⟩
                        · simp only [catE]
                          exact ⟨⟨rfl, rfl, rfl, rfl, rfl, rfl, rfl, rfl, rfl, rfl, rfl, rfl, rfl, rfl, rfl, rfl, rfl, rfl, trivial⟩, ⟨(bool_fin (by first | (rw [okT, if_pos hk0]) | (rw [okT, if_neg hk0, if_pos hk1]) | (rw [okT, if_neg hk0, if_neg hk1, if_pos hk2]) | (rw [okT, if_neg hk0, if_neg hk1, if_neg hk2, if_pos hk3]) | (rw [okT, if_neg hk0, if_neg hk1, if_neg hk2, if_neg hk3, if_pos hk4]) | (rw [okT, if_neg hk0, if_neg hk1, if_neg hk2, if_neg hk3, if_neg hk4, if_pos hk5]) | (rw [okT, if_neg hk0, if_neg hk1, if_neg hk2, if_neg hk3, if_neg hk4, if_neg hk5, if_pos hk6]) | (rw [okT, if_neg hk0, if_neg hk1, if_neg hk2, if_neg hk3, if_neg hk4, if_neg hk5, if_neg hk6]))), trivial⟩, ⟨rfl, rfl, rfl, rfl, rfl, trivial⟩⟩
                      · intro hc12
                        have hk4 : ¬ y = 4 := by have := of_decide_eq_false hc12; omega
                        refine Qs<|Qp<|(Qc)<|(Qa)<|Qn ?_
                        refine e_cond rfl ?_ ?_
                        · intro hc13
                          have hk5 : y = 5 := by have := of_decide_eq_true hc13; omega
                          refine Qp ?_
                          refine e_join [(1, _), (3, _), (10, _), (12, _), (13, _), (39, _), (68, _), (69, _), (70, _), (86, _), (87, _), (88, _), (89, _), (90, _), (91, _), (110, _), (111, _), (112, _), (120, _), (121, _), (126, _), (127, _), (141, _), (142, _), (155, _), (156, _), (169, _), (170, _)] [(14, .bool ((hap (uptoE L (2 + i) p) 0 2 && hap (uptoE L (2 + i) p) 1 1) && !(hap (uptoE L (2 + i) p) (-1) y)))] [(0, some _), (1, oz2_1), (2, oz6_3), (3, some _), (50, ow)] ⟨rfl, rfl, rfl, rfl, rfl, rfl, rfl, rfl, rfl, rfl, rfl, rfl, rfl, rfl, rfl, rfl, rfl, rfl, rfl, rfl, rfl, rfl, rfl, rfl, rfl, rfl, rfl, rfl, trivial⟩ ⟨rfl, rfl, rfl, rfl, rfl, trivial⟩ ?_ ?_
                          · skip
                            refine (Qm) ?_
                            refine e_callS rfl rfl (Un 9) (seenM 50 rfl ⟨[], trivial⟩) (happened_fn (G := Option.toList ow) w4 (uptoE L (2 + i) p) 0 2 hf3_1.shows hlen) rfl rfl ?_
                            refine (Qm) ?_
                            refine e_case (b := hap (uptoE L (2 + i) p) 0 2) (fun hb12 => ?_) (fun hb12 => ?_)
                            · skip
                              refine (Qy)<|(Qm)<|(Qy) ?_
                              refine e_callS rfl rfl (Un 9) (seenM 50 rfl ⟨[], trivial⟩) (happened_fn (G := Option.toList ow) w4 (uptoE L (2 + i) p) 1 1 hf3_1.shows hlen) rfl rfl ?_
                              refine (QT)<|(Qm) ?_
                              refine e_case (b := hap (uptoE L (2 + i) p) 1 1) (fun hb13 => ?_) (fun hb13 => ?_)
                              · skip
                                refine (Qy)<|(Qm)<|(Qy)<|(Qm)<|(Qy) ?_
                                refine e_callS rfl rfl (Un 9) (seenM 50 rfl ⟨[], trivial⟩) (happened_fn (G := Option.toList ow) w4 (uptoE L (2 + i) p) (-1) y hf3_1.shows hlen) rfl rfl ?_
                                refine (Qy)<|(Q0)<|(QT)<|(Qa)<|Qn ?_
                                exact ⟨⟨rfl, rfl, rfl, rfl, rfl, rfl, rfl, rfl, rfl, rfl, rfl, rfl, rfl, rfl, rfl, rfl, rfl, rfl, rfl, rfl, rfl, rfl, rfl, rfl, rfl, rfl, rfl, rfl, trivial⟩, ⟨bool_fin (by rw [hb12, hb13] <;> rfl), trivial⟩, ⟨rfl, rfl, rfl, rfl, rfl, trivial⟩⟩
                              · skip
                                refine (Qo)<|(Qo)<|(Qo)<|(Qo)<|(QF)<|(Qa)<|Qn ?_
                                exact ⟨⟨rfl, rfl, rfl, rfl, rfl, rfl, rfl, rfl, rfl, rfl, rfl, rfl, rfl, rfl, rfl, rfl, rfl, rfl, rfl, rfl, rfl, rfl, rfl, rfl, rfl, rfl, rfl, rfl, trivial⟩, ⟨bool_fin (by rw [hb12, hb13] <;> rfl), trivial⟩, ⟨rfl, rfl, rfl, rfl, rfl, trivial⟩⟩
                            · skip
                              refine (Qo)<|(Qo)<|(QF)<|(Qm)<|(Qo)<|(Qo)<|(Qo)<|(Qo)<|(QF)<|(Qa)<|Qn ?_
                              exact ⟨⟨rfl, rfl, rfl, rfl, rfl, rfl, rfl, rfl, rfl, rfl, rfl, rfl, rfl, rfl, rfl, rfl, rfl, rfl, rfl, rfl, rfl, rfl, rfl, rfl, rfl, rfl, rfl, rfl, trivial⟩, ⟨bool_fin (by rw [hb12] <;> rfl), trivial⟩, ⟨rfl, rfl, rfl, rfl, rfl, trivial⟩⟩
                          · simp only [catE]
                            exact ⟨⟨rfl, rfl, rfl, rfl, rfl, rfl, rfl, rfl, rfl, rfl, rfl, rfl, rfl, rfl, rfl, rfl, rfl, rfl, trivial⟩, ⟨(bool_fin (by first | (rw [okT, if_pos hk0]) | (rw [okT, if_neg hk0, if_pos hk1]) | (rw [okT, if_neg hk0, if_neg hk1, if_pos hk2]) | (rw [okT, if_neg hk0, if_neg hk1, if_neg hk2, if_pos hk3]) | (rw [okT, if_neg hk0, if_neg hk1, if_neg hk2, if_neg hk3, if_pos hk4]) | (rw [okT, if_neg hk0, if_neg hk1, if_neg hk2, if_neg hk3, if_neg hk4, if_pos hk5]) | (rw [okT, if_neg hk0, if_neg hk1, if_neg hk2, if_neg hk3, if_neg hk4, if_neg hk5, if_pos hk6]) | (rw [okT, if_neg hk0, if_neg hk1, if_neg hk2, if_neg hk3, if_neg hk4, if_neg hk5, if_neg hk6]))), trivial⟩, ⟨rfl, rfl, rfl, rfl, rfl, trivial⟩⟩
                        · intro hc13
                          have hk5 : ¬ y = 5 := by have := of_decide_eq_false hc13; omega
                          refine Qs<|Qp<|(Qc)<|(Qa)<|Qn ?_
                          refine e_cond rfl ?_ ?_
                          · intro hc14
                            have hk6 : y = 6 := by have := of_decide_eq_true hc14; omega
                            refine Qp ?_
                            refine e_join [(1, _), (3, _), (10, _), (12, _), (13, _), (39, _), (68, _), (69, _), (70, _), (86, _), (87, _), (88, _), (89, _), (90, _), (91, _), (110, _), (111, _), (112, _), (120, _), (121, _), (126, _), (127, _), (141, _), (142, _), (155, _), (156, _), (169, _), (170, _), (183, _), (184, _)] [(14, .bool ((hap (uptoE L (2 + i) p) 0 2 && hap (uptoE L (2 + i) p) 1 2) && !(hap (uptoE L (2 + i) p) (-1) y)))] [(0, some _), (1, oz2_1), (2, oz6_3), (3, some _), (50, ow)] ⟨rfl, rfl, rfl, rfl, rfl, rfl, rfl, rfl, rfl, rfl, rfl, rfl, rfl, rfl, rfl, rfl, rfl, rfl, rfl, rfl, rfl, rfl, rfl, rfl, rfl, rfl, rfl, rfl, rfl, rfl, trivial⟩ ⟨rfl, rfl, rfl, rfl, rfl, trivial⟩ ?_ ?_
                            · skip
                              refine (Qm) ?_
                              refine e_callS rfl rfl (Un 9) (seenM 50 rfl ⟨[], trivial⟩) (happened_fn (G := Option.toList ow) w4 (uptoE L (2 + i) p) 0 2 hf3_1.shows hlen) rfl rfl ?_
                              refine (Qm) ?_
                              refine e_case (b := hap (uptoE L (2 + i) p) 0 2) (fun hb14 => ?_) (fun hb14 => ?_)
                              · skip
                                refine (Qy)<|(Qm)<|(Qy) ?_
                                refine e_callS rfl rfl (Un 9) (seenM 50 rfl ⟨[], trivial⟩) (happened_fn (G := Option.toList ow) w4 (uptoE L (2 + i) p) 1 2 hf3_1.shows hlen) rfl rfl ?_
                                refine (QT)<|(Qm) ?_
                                refine e_case (b := hap (uptoE L (2 + i) p) 1 2) (fun hb15 => ?_) (fun hb15 => ?_)
                                · skip
                                  refine (Qy)<|(Qm)<|(Qy)<|(Qm)<|(Qy) ?_
                                  refine e_callS rfl rfl (Un 9) (seenM 50 rfl ⟨[], trivial⟩) (happened_fn (G := Option.toList ow) w4 (uptoE L (2 + i) p) (-1) y hf3_1.shows hlen) rfl rfl ?_
                                  refine (Qy)<|(Q0)<|(QT)<|(Qa)<|Qn ?_
                                  exact ⟨⟨rfl, rfl, rfl, rfl, rfl, rfl, rfl, rfl, rfl, rfl, rfl, rfl, rfl, rfl, rfl, rfl, rfl, rfl, rfl, rfl, rfl, rfl, rfl, rfl, rfl, rfl, rfl, rfl, rfl, rfl, trivial⟩, ⟨bool_fin (by rw [hb14, hb15] <;> rfl), trivial⟩, ⟨rfl, rfl, rfl, rfl, rfl, trivial⟩⟩
                                · skip
                                  refine (Qo)<|(Qo)<|(Qo)<|(Qo)<|(QF)<|(Qa)<|Qn ?_
                                  exact ⟨⟨rfl, rfl, rfl, rfl, rfl, rfl, rfl, rfl, rfl, rfl, rfl, rfl, rfl, rfl, rfl, rfl, rfl, rfl, rfl, rfl, rfl, rfl, rfl, rfl, rfl, rfl, rfl, rfl, rfl, rfl, trivial⟩, ⟨bool_fin (by rw [hb14, hb15] <;> rfl), trivial⟩, ⟨rfl, rfl, rfl, rfl, rfl, trivial⟩⟩
                              · skip
                                refine (Qo)<|(Qo)<|(QF)<|(Qm)<|(Qo)<|(Qo)<|(Qo)<|(Qo)<|(QF)<|(Qa)<|Qn ?_
                                exact ⟨⟨rfl, rfl, rfl, rfl, rfl, rfl, rfl, rfl, rfl, rfl, rfl, rfl, rfl, rfl, rfl, rfl, rfl, rfl, rfl, rfl, rfl, rfl, rfl, rfl, rfl, rfl, rfl, rfl, rfl, rfl, trivial⟩, ⟨bool_fin (by rw [hb14] <;> rfl), trivial⟩, ⟨rfl, rfl, rfl, rfl, rfl, trivial⟩⟩
                            · simp only [catE]
                              exact ⟨⟨rfl, rfl, rfl, rfl, rfl, rfl, rfl, rfl, rfl, rfl, rfl, rfl, rfl, rfl, rfl, rfl, rfl, rfl, trivial⟩, ⟨(bool_fin (by first | (rw [okT, if_pos hk0]) | (rw [okT, if_neg hk0, if_pos hk1]) | (rw [okT, if_neg hk0, if_neg hk1, if_pos hk2]) | (rw [okT, if_neg hk0, if_neg hk1, if_neg hk2, if_pos hk3]) | (rw [okT, if_neg hk0, if_neg hk1, if_neg hk2, if_neg hk3, if_pos hk4]) | (rw [okT, if_neg hk0, if_neg hk1, if_neg hk2, if_neg hk3, if_neg hk4, if_pos hk5]) | (rw [okT, if_neg hk0, if_neg hk1, if_neg hk2, if_neg hk3, if_neg hk4, if_neg hk5, if_pos hk6]) | (rw [okT, if_neg hk0, if_neg hk1, if_neg hk2, if_neg hk3, if_neg hk4, if_neg hk5, if_neg hk6]))), trivial⟩, ⟨rfl, rfl, rfl, rfl, rfl, trivial⟩⟩
                          · intro hc14
                            have hk6 : ¬ y = 6 := by have := of_decide_eq_false hc14; omega
                            refine Qk ?_
                            exact ⟨⟨rfl, rfl, rfl, rfl, rfl, rfl, rfl, rfl, rfl, rfl, rfl, rfl, rfl, rfl, rfl, rfl, rfl, rfl, trivial⟩, ⟨(bool_fin (by first | (rw [okT, if_pos hk0]) | (rw [okT, if_neg hk0, if_pos hk1]) | (rw [okT, if_neg hk0, if_neg hk1, if_pos hk2]) | (rw [okT, if_neg hk0, if_neg hk1, if_neg hk2, if_pos hk3]) | (rw [okT, if_neg hk0, if_neg hk1, if_neg hk2, if_neg hk3, if_pos hk4]) | (rw [okT, if_neg hk0, if_neg hk1, if_neg hk2, if_neg hk3, if_neg hk4, if_pos hk5]) | (rw [okT, if_neg hk0, if_neg hk1, if_neg hk2, if_neg hk3, if_neg hk4, if_neg hk5, if_pos hk6]) | (rw [okT, if_neg hk0, if_neg hk1, if_neg hk2, if_neg hk3, if_neg hk4, if_neg hk5, if_neg hk6]))), trivial⟩, ⟨rfl, rfl, rfl, rfl, rfl, trivial⟩⟩
            · simp only [catE]
              refine Qs<|Qs<|Qp<|(Qm)<|(Q0)<|Qn ?_
              refine e_cond rfl ?_ ?_
              · intro hc15
                rw [fin3_bad (i := 2 + i) (j := p) (by omega) hjl (by rw [hok]; simpa using hc15)]
                refine Qs<|Qp<|(Qa)<|Qn<|Qr ?_
                first | rw [fin3_ok (fun s t hs ht => by by_cases h2 : s < 2; exact hf0_2 s t h2 ht; (obtain ⟨s, rfl⟩ : ∃ r, s = 2 + r := ⟨s - 2, by omega⟩); exact hf2_2 s t (by omega) (by rw [hLt s (by omega), List.length_map, List.length_append] at ht; simpa using ht))] | skip
                exact ⟨_, rfl, .tmp rfl⟩
              · intro hc15
                have hcf : okAt L (2 + i) p = true := by rw [hok]; simpa using hc15
                refine Qk<|Qp<|(Qm)<|(Qm)<|(Qm) ?_
                refine e_buildS (arr .i64 2 (ev2 (whoT late i, y))) (Ub 34 rfl) (Uu 34 rfl) pls34 rfl (by kernel_rfl) rfl ?_
                refine e_buildSl 4 (arr .i64 2 (ev2 (whoT late i, y))) (Uu 31 rfl) (Uz 34 rfl) (Ub 34 rfl) (by decide) (by decide) rfl (by kernel_rfl) rfl fun r5 => ?_
                refine e_append 50 hf3_1 (ev_shows _ _ (whoT late i, y)) rfl (seen1 4 rfl ⟨[], trivial⟩) (Uu 31) (Uz 34) (Uy 34) (Ub 34) (by rfl) rfl rfl (ev_one _) (by simp only [maxLen]; omega) (by omega) rfl fun v10_4 oz10_4 ho10_4 => ?_
                refine (Qa)<|Qn<|Qp<|(Q2 1)<|(Qm)<|Qn ?_
                refine QzL ⟨p + 1, _, _, rfl, rfl, rfl, by omega, (own_fix ho10_4 (by rw [uptoE_next hjl, List.length_append, he]; rfl) (by rw [uptoE_next hjl, ← ev_push, he])), fun t ht => by by_cases e : t = p; (subst e; exact hcf); exact hf3_2 t (by omega)⟩ ⟨rfl, rfl, rfl, rfl, rfl, rfl, rfl, rfl, rfl, rfl, trivial⟩ ⟨rfl, rfl, rfl, rfl, rfl, trivial⟩ ?_
                omega
        · intro hc7
          have hc7 := of_decide_eq_false hc7
          have hz3 : p = ((us.getD i []).length + 1) := by omega
          refine Qe<|Qp<|(Q2 1)<|(Qm)<|Qn ?_
          refine QzL ⟨i + 1, _, _, rfl, rfl, rfl, by omega, (own_fix hf3_1 (by rw [hz3, hrow3]) (by rw [hz3, hrow3])), fun s t hs ht => by by_cases e : s = i; (subst e; exact hf3_2 t (by omega)); exact hf2_2 s t (by omega) ht⟩ ⟨rfl, rfl, rfl, rfl, rfl, rfl, trivial⟩ ⟨rfl, rfl, rfl, trivial⟩ ?_
          omega
    · intro hc5
      have hc5 := of_decide_eq_false hc5
      have hz2 : i = tvs.length := by omega
      refine Qe<|Qs<|Qp<|(Qa)<|Qn<|Qr ?_
      first | rw [fin3_ok (fun s t hs ht => by by_cases h2 : s < 2; exact hf0_2 s t h2 ht; (obtain ⟨s, rfl⟩ : ∃ r, s = 2 + r := ⟨s - 2, by omega⟩); exact hf2_2 s t (by omega) (by rw [hLt s (by omega), List.length_map, List.length_append] at ht; simpa using ht))] | skip
      exact ⟨_, rfl, .tmp rfl⟩
end Go.Proofs.Ytejejmhbhegneaa
namespace Go.Proofs.Ytejejmhbhegneaa
open Go Go.RowKit
theorem fault_all {G : Mem} (base : List Nat) (late : Bool) (vp v0 v1 vt : Value) (tvs : List Value) (p0 p1 : List Int) (ts : List (List Int)) (hvt : Shows G 1 vt tvs.length tvs) (hLI : ShowsLI G (v0 :: v1 :: tvs) (p0 :: p1 :: ts)) : Fn Try.prog G 5 #[.agg (cells 6 [pV (sv base), pV (.bool late), pV vp, pV v0, pV v1, pV vt])] (ii (pfault late p0 p1 ts)) := by
  have hl : tvs.length = ts.length := (li_tail (li_tail hLI)).1
  by_cases h0 : ts.length = 0
  · rw [pfault, if_pos (.inl h0)]; exact fault_none base late vp v0 v1 vt tvs hvt (by omega)
  by_cases h5 : 5 < ts.length
  · rw [pfault, if_pos (.inr h5)]; exact fault_many base late vp v0 v1 vt tvs hvt (by omega)
  by_cases hf : first1 (p0 :: p1 :: ts) = 0
  · have hz := first1_zero hf
    have e0 := wrong_no (hz p0 (by simp)).2
    have e1 := wrong_no (hz p1 (by simp)).2
    have et : ts = (ts.map fun t => t.map Int.toNat).map ci := by
      rw [List.map_map]
      conv => lhs; rw [← List.map_id ts]
      exact List.map_congr_left fun t ht => wrong_no (hz t (by simp [ht])).2
    rw [pfault, if_neg (by omega), if_pos hf]
    refine fault_main base late vp v0 v1 vt tvs (p0.map Int.toNat) (p1.map Int.toNat) (ts.map fun t => t.map Int.toNat) hvt (by rw [← e0, ← e1, ← et]; exact hLI) (by omega) (by omega) (by rw [← e0, ← e1, ← et]; exact hf) ?_ ?_ ?_
    · rw [List.length_map]; exact (hz p0 (by simp)).1
    · rw [List.length_map]; exact (hz p1 (by simp)).1
    · intro u hu
      obtain ⟨t, ht, rfl⟩ := List.mem_map.1 hu
      rw [List.length_map]; exact (hz t (by simp [ht])).1
  · rw [pfault, if_neg (by omega), if_neg hf]
    exact fault_first base late vp v0 v1 vt tvs p0 p1 ts _ hvt hLI (by omega) (by omega) rfl hf
variable {G : Mem}
set_option maxHeartbeats 400000 in
theorem patternChecks_fn (base : List Nat) (late : Bool) (vp v0 v1 vt : Value) (tvs : List Value) (p0 p1 : List Int) (ts : List (List Int)) (hvt : Shows G 1 vt tvs.length tvs) (hLI : ShowsLI G (v0 :: v1 :: tvs) (p0 :: p1 :: ts)) (hC : Fn Try.prog G 4 #[.agg (cells 6 [pV (sv base), pV (.bool late), pV vp, pV v0, pV v1, pV vt])] (ii (pfault late p0 p1 ts))) : Fn Try.prog G 3 #[.agg (cells 6 [pV (sv base), pV (.bool late), pV vp, pV v0, pV v1, pV vt])] (.bool true) := by
  refine Qf1 Try.func3 ?_
  refine Qs<|Qp<|(Qh 0) fun r1=>(Qa)<|Qn<|Qs<|Qp<|(QD 0) ?_
  refine e_call rfl (Un 4) hC rfl rfl ?_
  refine (Qa)<|Qn<|Qs<|Qp<|(QD 0) ?_
  refine e_call rfl (Un 5) (fault_all base late vp v0 v1 vt tvs p0 p1 ts hvt hLI) rfl rfl ?_
  refine (Qa)<|Qn<|Qs<|Qp<|(Qm)<|(Qm)<|(Qc)<|(Qar)<|(Qa)<|Qn<|Qr ?_
  exact ⟨_, rfl, .tmp rfl⟩
end Go.Proofs.Ytejejmhbhegneaa
namespace Go.Proofs.Ytejejmhbhegneaa
open Go Go.RowKit
variable {G : Mem}
set_option maxHeartbeats 400000 in
theorem tell_fn (r : Nat) (es : List Ev) (w k : Nat) (hw : w < 2) (hk : k = 1 ∨ k = 2) : Fx Try.prog G [(⟨r, kst (stE es), 40⟩ : Blk)] 14 #[ptr r, ii w, ii k] (fun v l1 nw => nw = [] ∧ ∃ c', l1 = [⟨r, c', 40⟩] ∧ (v = Value.bool (!(hap es w k)) ∧ ((!(hap es w k)) = true → c' = kst (stE (es ++ [(w, k)]))))) := by
  refine fxWS (n := 22) Try.func14 rfl rfl (by simp) (argE [ptr r, ii w, ii k] 0) (argE_ok _) ?_
  refine Qs<|Qp<|(Qa)<|Qn<|Qs<|Qs<|Qp<|(Qm)<|(Qm)<|(Qm) ?_
  refine e_nilCheck rfl rfl ?_
  refine (Qf 0)<|(QB (3 * w))<|(QB (3 * w + k)) ?_
  refine e_load1 (i := 0) (Uu 4) rfl rfl rfl (arrv_get (by omega)) rfl ⟨[], trivial⟩ ?_
  refine e_as (show _ = Value.bool (hap es w k) from congrArg Value.bool (stE_key hk hw)) ?_
  refine Qn ?_
  refine e_cond rfl ?_ ?_
  · intro hc0
    refine Qs<|Qp<|(Qa)<|Qn<|Qr ?_
    exact ⟨_, _, _, rfl, .tmp rfl, (by first | exact ⟨by rw [hc0]; rfl, fun _ => kst_key hk hw⟩ | exact ⟨by rw [hc0]; rfl, fun h => by rw [hc0] at h; cases h⟩), 0, rfl⟩
  · intro hc0
    refine Qk<|Qs<|Qp<|(Qm)<|(Qm)<|(Qm) ?_
    refine e_nilCheck rfl rfl ?_
    refine (Qf 0)<|(QB (3 * w))<|(QB (3 * w + k)) ?_
    refine e_st1 (i := 0) (Uz 4) rfl rfl rfl rfl (by omega) (.inl rfl) ?_
    refine Qn<|Qs<|Qp<|(Qa)<|Qn<|Qr ?_
    exact ⟨_, _, _, rfl, .tmp rfl, (by first | exact ⟨by rw [hc0]; rfl, fun _ => kst_key hk hw⟩ | exact ⟨by rw [hc0]; rfl, fun h => by rw [hc0] at h; cases h⟩), 0, rfl⟩
set_option maxHeartbeats 400000 in
theorem letters_fn (t : Nat) : Fn Try.prog G 18 #[ii t] (.agg (arr .i64 2 (ltr t))) := by
  refine Qf1 Try.func18 ?_
  refine Qs<|Qp<|(QH 0) fun r1=>Qn<|Qs<|Qs<|Qp<|(Qm)<|Qn<|Qb<|Qs<|Qp<|(Qc)<|(Qa)<|Qn ?_
  refine e_cond rfl ?_ ?_
  · intro hc0
    obtain rfl : t = 3 := by have := of_decide_eq_true hc0; omega
    refine Qs<|Qp ?_
    refine e_build (arr .i64 2 (ltr 3)) (Ub 45 rfl) (Uu 45 rfl) (Uz 3 rfl) rfl (by kernel_rfl) rfl ?_
    refine (Qt 0)<|Qn<|Qr ?_
    first | (rw [show ltr t = ltr 6 by funext j; unfold ltr; rw [if_neg hn0, if_neg hn1, if_neg hn2]; rfl]) | skip
    exact ⟨_, rfl, .cell (i := 0) rfl rfl (Uu 45) rfl (Uz 45) (arr_size _ _ _)⟩
  · intro hc0
    have hn0 : ¬ t = 3 := by have := of_decide_eq_false hc0; omega
    refine Qs<|Qp<|(Qc)<|(Qa)<|Qn ?_
    refine e_cond rfl ?_ ?_
    · intro hc1
      obtain rfl : t = 4 := by have := of_decide_eq_true hc1; omega
      refine Qs<|Qp ?_
      refine e_build (arr .i64 2 (ltr 4)) (Ub 45 rfl) (Uu 45 rfl) (Uz 3 rfl) rfl (by kernel_rfl) rfl ?_
      refine (Qt 0)<|Qn<|Qr ?_
      first | (rw [show ltr t = ltr 6 by funext j; unfold ltr; rw [if_neg hn0, if_neg hn1, if_neg hn2]; rfl]) | skip
      exact ⟨_, rfl, .cell (i := 0) rfl rfl (Uu 45) rfl (Uz 45) (arr_size _ _ _)⟩
    · intro hc1
      have hn1 : ¬ t = 4 := by have := of_decide_eq_false hc1; omega
      refine Qs<|Qp<|(Qc)<|(Qa)<|Qn ?_
      refine e_cond rfl ?_ ?_
      · intro hc2
        obtain rfl : t = 5 := by have := of_decide_eq_true hc2; omega
        refine Qs<|Qp ?_
        refine e_build (arr .i64 2 (ltr 5)) (Ub 45 rfl) (Uu 45 rfl) (Uz 3 rfl) rfl (by kernel_rfl) rfl ?_
        refine (Qt 0)<|Qn<|Qr ?_
        first | (rw [show ltr t = ltr 6 by funext j; unfold ltr; rw [if_neg hn0, if_neg hn1, if_neg hn2]; rfl]) | skip
        exact ⟨_, rfl, .cell (i := 0) rfl rfl (Uu 45) rfl (Uz 45) (arr_size _ _ _)⟩
      · intro hc2
        have hn2 : ¬ t = 5 := by have := of_decide_eq_false hc2; omega
        refine Qk<|Qs<|Qp ?_
        refine e_build (arr .i64 2 (ltr 6)) (Ub 45 rfl) (Uu 45 rfl) (Uz 3 rfl) rfl (by kernel_rfl) rfl ?_
        refine (Qt 0)<|Qn<|Qr ?_
        first | (rw [show ltr t = ltr 6 by funext j; unfold ltr; rw [if_neg hn0, if_neg hn1, if_neg hn2]; rfl]) | skip
        exact ⟨_, rfl, .cell (i := 0) rfl rfl (Uu 45) rfl (Uz 45) (arr_size _ _ _)⟩
set_option maxHeartbeats 2000000 in
theorem dlock_fn (r : Nat) (s : Nat → Bool) (w : Nat) (hw : w < 2) : Fn Try.prog ((⟨r, kst s, 40⟩ : Blk) :: G) 16 #[ptr r, ii w] (.bool (mlS s w)) := by
  have hmo : 4 ≤ mown (w : Int) ∧ mown (w : Int) ≤ 5 := by unfold mown; split <;> omega
  have hmf : 4 ≤ mfre (w : Int) ∧ mfre (w : Int) ≤ 5 := by unfold mfre; split <;> omega
  refine Qf1 Try.func16 ?_
  refine Qs<|Qp<|(Qa)<|Qn<|Qs<|Qp<|(Qa)<|(Qa)<|Qn<|Qs<|Qs<|Qp<|(Qm)<|(Qc)<|Qn ?_
  refine s_join [(0, _), (1, _), (4, _), (7, _), (8, _)] [(5, ii (mown w)), (6, ii (mfre w))] [] ⟨rfl, rfl, rfl, rfl, rfl, trivial⟩ trivial ?_ ?_
  · skip
    refine e_cond rfl ?_ ?_
    · intro hc0
      have hc0 := of_decide_eq_true hc0
      refine Qp<|(Qm)<|(Qm)<|(Qa)<|(Qa)<|Qn ?_
      exact ⟨⟨rfl, rfl, rfl, rfl, rfl, trivial⟩, ⟨(by first | rw [mown, if_pos (by assumption)]; rfl | rw [mown, if_neg (by assumption)]; rfl), (by first | rw [mfre, if_pos (by assumption)]; rfl | rw [mfre, if_neg (by assumption)]; rfl), trivial⟩, trivial⟩
    · intro hc0
      have hc0 := of_decide_eq_false hc0
      refine Qk ?_
      exact ⟨⟨rfl, rfl, rfl, rfl, rfl, trivial⟩, ⟨(by first | rw [mown, if_pos (by assumption)]; rfl | rw [mown, if_neg (by assumption)]; rfl), (by first | rw [mfre, if_pos (by assumption)]; rfl | rw [mfre, if_neg (by assumption)]; rfl), trivial⟩, trivial⟩
  · simp only [catE]
    refine Qs<|Qs<|Qp ?_
    refine e_join [(0, _), (1, _), (4, _), (5, _), (6, _), (7, _), (8, _)] [(25, .bool (s 13 && !(s (3 * w + 1))))] [] ⟨rfl, rfl, rfl, rfl, rfl, rfl, rfl, trivial⟩ trivial ?_ ?_
    · skip
      refine (Qm) ?_
      refine e_nilCheck rfl rfl ?_
      refine (Qf 6)<|(QA 13 7) ?_
      refine e_load1g (i := 0) (Uu 4) rfl rfl rfl (arrv_get (by decide)) rfl ?_
      refine e_as (show _ = Value.bool (s 13) from rfl) ?_
      refine (Qm) ?_
      refine e_case (fun hb0 => ?_) (fun hb0 => ?_)
      · skip
        refine (Qy)<|(Qm)<|(Qy)<|(Qm)<|(Qy) ?_
        refine e_nilCheck rfl rfl ?_
        refine (Qy)<|(Qf 0)<|(Qy)<|(QB (3 * w))<|(Qy)<|(QA (3 * w + 1) 1)<|(Qy) ?_
        refine e_load1g (i := 0) (Uu 4) rfl rfl rfl (arrv_get (by omega)) rfl ?_
        refine e_as (show _ = Value.bool (s (3 * w + 1)) from rfl) ?_
        refine (Qy)<|(Q0)<|(QT)<|Qn ?_
        exact ⟨⟨rfl, rfl, rfl, rfl, rfl, rfl, rfl, trivial⟩, ⟨bool_fin (by rw [hb0] <;> rfl), trivial⟩, trivial⟩
      · skip
        refine (Qo)<|(Qo)<|(Qo)<|(Qo)<|(Qo)<|(Qo)<|(Qo)<|(Qo)<|(QF)<|Qn ?_
        exact ⟨⟨rfl, rfl, rfl, rfl, rfl, rfl, rfl, trivial⟩, ⟨bool_fin (by rw [hb0] <;> rfl), trivial⟩, trivial⟩
    · simp only [catE]
      refine e_cond rfl ?_ ?_
      · intro hc1
        rw [show mlS s w = false by rw [mlS, hc1]; rfl]
        refine Qs<|Qp<|(Qa)<|Qn<|Qr ?_
        exact ⟨_, rfl, .tmp rfl⟩
      · intro hc1
        have hz1 := hc1
        refine Qk<|Qs<|Qs<|Qp ?_
        refine e_join [(0, _), (1, _), (4, _), (5, _), (6, _), (7, _), (8, _), (25, _)] [(39, .bool (s (6 + mown w) && !(s 9)))] [] ⟨rfl, rfl, rfl, rfl, rfl, rfl, rfl, rfl, trivial⟩ trivial ?_ ?_
        · skip
          refine (Qm)<|(Qm) ?_
          refine e_nilCheck rfl rfl ?_
          refine (Qf 6)<|(QB (6 + mown w)) ?_
          refine e_load1g (i := 0) (Uu 4) rfl rfl rfl (arrv_get (by omega)) rfl ?_
          refine e_as (show _ = Value.bool (s (6 + mown w)) from rfl) ?_
          refine (Qm) ?_
          refine e_case (fun hb1 => ?_) (fun hb1 => ?_)
          · skip
            refine (Qy)<|(Qm)<|(Qy) ?_
            refine e_nilCheck rfl rfl ?_
            refine (Qy)<|(Qf 6)<|(Qy)<|(QA 9 3)<|(Qy) ?_
            refine e_load1g (i := 0) (Uu 4) rfl rfl rfl (arrv_get (by decide)) rfl ?_
            refine e_as (show _ = Value.bool (s 9) from rfl) ?_
            refine (Qy)<|(Q0)<|(QT)<|Qn ?_
            exact ⟨⟨rfl, rfl, rfl, rfl, rfl, rfl, rfl, rfl, trivial⟩, ⟨bool_fin (by rw [hb1] <;> rfl), trivial⟩, trivial⟩
          · skip
            refine (Qo)<|(Qo)<|(Qo)<|(Qo)<|(Qo)<|(Qo)<|(QF)<|Qn ?_
            exact ⟨⟨rfl, rfl, rfl, rfl, rfl, rfl, rfl, rfl, trivial⟩, ⟨bool_fin (by rw [hb1] <;> rfl), trivial⟩, trivial⟩
        · simp only [catE]
          refine e_cond rfl ?_ ?_
          · intro hc2
            rw [show mlS s w = false by rw [mlS, hz1, hc2]; rfl]
            refine Qs<|Qp<|(Qa)<|Qn<|Qr ?_
            exact ⟨_, rfl, .tmp rfl⟩
          · intro hc2
            rw [show mlS s w = (!(s 12) || s (6 + mfre w)) by rw [mlS, hz1, hc2]; rfl]
            refine Qk<|Qs<|Qp ?_
            refine e_join [(0, _), (1, _), (5, _), (6, _), (7, _), (8, _), (25, _), (39, _)] [(4, .bool (!(s 12) || s (6 + mfre w)))] [] ⟨rfl, rfl, rfl, rfl, rfl, rfl, rfl, rfl, trivial⟩ trivial ?_ ?_
            · skip
              refine (Qm) ?_
              refine e_nilCheck rfl rfl ?_
              refine (Qf 6)<|(QA 12 6) ?_
              refine e_load1g (i := 0) (Uu 4) rfl rfl rfl (arrv_get (by decide)) rfl ?_
              refine e_as (show _ = Value.bool (s 12) from rfl) ?_
              refine (Q0)<|(Qm) ?_
              refine e_case (fun hb2 => ?_) (fun hb2 => ?_)
              · skip
                refine (Qo)<|(Qo)<|(Qo)<|(Qo)<|(Qo)<|(Qo)<|(QT)<|(Qa)<|Qn ?_
                exact ⟨⟨rfl, rfl, rfl, rfl, rfl, rfl, rfl, rfl, trivial⟩, ⟨bool_fin (by rw [hb2] <;> rfl), trivial⟩, trivial⟩
              · skip
                refine (Qy)<|(Qm)<|(Qy)<|(Qm)<|(Qy) ?_
                refine e_nilCheck rfl rfl ?_
                refine (Qy)<|(Qf 6)<|(Qy)<|(QB (6 + mfre w))<|(Qy) ?_
                refine e_load1g (i := 0) (Uu 4) rfl rfl rfl (arrv_get (by omega)) rfl ?_
                refine e_as (show _ = Value.bool (s (6 + mfre w)) from rfl) ?_
                refine (QF)<|(Qa)<|Qn ?_
                exact ⟨⟨rfl, rfl, rfl, rfl, rfl, rfl, rfl, rfl, trivial⟩, ⟨bool_fin (by rw [hb2] <;> rfl), trivial⟩, trivial⟩
            · simp only [catE]
              refine Qr ?_
              exact ⟨_, rfl, .tmp rfl⟩
set_option maxHeartbeats 2000000 in
theorem chkl_fn (v : Value) (vs : List Value) (ls : List (List Int)) (hv : Shows G 1 v vs.length vs) (hL : ShowsLI G vs ls) (hn : vs.length ≤ 1000000) : Fn Try.prog G 6 #[v] (ii (first1 ls)) := by
  have hvl := hL.1
  refine Qf1 Try.func6 ?_
  refine Qs<|Qp<|(Qa)<|Qn<|Qs<|Qs<|Qp<|(Qm)<|(QC hv)<|(Qm)<|Qn<|Qb ?_
  refine QzK [(7, _), (8, _)] [] (fun kk E m => ∃ (i : Nat), kk = vs.length - i ∧ E = [(9, ii i)] ∧ m = [] ∧ (i ≤ vs.length) ∧ (∀ q, q < i → (ls.getD q []).length ≤ 6 ∧ (ls.getD q []).any wrong = false)) ⟨0, rfl, rfl, rfl, by omega, fun _ h => absurd h (Nat.not_lt_zero _)⟩ ⟨rfl, rfl, rfl, trivial⟩ trivial ?_
  rintro kk E m ⟨i, rfl, rfl, rfl, hf0_0, hf0_1⟩
  simp only [catE, catL]
  refine Qs<|Qp<|(Ql)<|Qn<|Qs ?_
  refine e_cond rfl ?_ ?_
  · intro hc0
    have hc0 : i < vs.length := by have := of_decide_eq_true hc0; omega
    refine Qk<|Qs<|Qb<|Qs<|Qp ?_
    refine e_atV hv (Uu 24) (Uz 22) rfl rfl (by omega) rfl ?_
    refine (QS) ?_
    refine e_loadV hv seenG (Uu 22) rfl rfl (get_getD (by omega)) rfl ?_
    refine (Qa)<|Qn<|Qs<|Qs<|Qp<|(Qm)<|(QC (hL.2 i (by omega)))<|(QG)<|Qn ?_
    refine e_cond rfl ?_ ?_
    · intro hc1
      have hc1 := of_decide_eq_true hc1
      rw [first1_at (by omega) hf0_1, first1, if_pos (by omega)]
      refine Qs<|Qp<|(Qa)<|Qn<|Qr ?_
      first | rw [first1_none (fun q hq => hf0_1 q (by omega))] | skip
      exact ⟨_, rfl, .tmp rfl⟩
    · intro hc1
      have hc1 := of_decide_eq_false hc1
      refine Qk<|Qs<|Qp<|(Qm)<|(QC (hL.2 i (by omega)))<|(Qm)<|Qn<|Qb ?_
      refine QzK [(7, _), (8, _), (9, _), (16, _), (17, _)] [] (fun kk E m => ∃ (j : Nat), kk = (ls.getD i []).length - j ∧ E = [(18, ii j)] ∧ m = [] ∧ (j ≤ (ls.getD i []).length) ∧ (∀ p, p < j → wrong ((ls.getD i []).getD p 0) = false)) ⟨0, rfl, rfl, rfl, by omega, fun _ h => absurd h (Nat.not_lt_zero _)⟩ ⟨rfl, rfl, rfl, rfl, rfl, rfl, trivial⟩ trivial ?_
      rintro kk E m ⟨j, rfl, rfl, rfl, hf1_0, hf1_1⟩
      simp only [catE, catL]
      refine Qs<|Qp<|(Ql)<|Qn<|Qs ?_
      refine e_cond rfl ?_ ?_
      · intro hc2
        have hc2 : j < (ls.getD i []).length := by have := of_decide_eq_true hc2; omega
        refine Qk<|Qs<|Qb<|Qs<|Qp ?_
        refine e_atV (hL.2 i (by omega)) (Uu 22) (Uz 3) rfl rfl (by omega) rfl ?_
        refine (QS) ?_
        refine e_loadV (hL.2 i (by omega)) seenG (Uu 3) rfl rfl (iv_at (by omega)) rfl ?_
        refine (Qa)<|Qn<|Qs<|Qp ?_
        refine e_join [(6, _), (7, _), (8, _), (9, _), (16, _), (17, _), (18, _), (19, _), (20, _), (21, _)] [(27, .bool (wrong ((ls.getD i []).getD j 0)))] [] ⟨rfl, rfl, rfl, rfl, rfl, rfl, rfl, rfl, rfl, rfl, trivial⟩ trivial ?_ ?_
        · skip
          refine (Qm)<|(Ql)<|(Qm) ?_
          refine e_case (b := decide ((ls.getD i []).getD j 0 < 1)) (fun hb0 => ?_) (fun hb0 => ?_)
          · skip
            refine (Qo)<|(Qo)<|(QT)<|Qn ?_
            exact ⟨⟨rfl, rfl, rfl, rfl, rfl, rfl, rfl, rfl, rfl, rfl, trivial⟩, ⟨bool_fin (by rw [wrong, hb0] <;> rfl), trivial⟩, trivial⟩
          · skip
            refine (Qy)<|(Qm)<|(Qy)<|(QG)<|(QF)<|Qn ?_
            exact ⟨⟨rfl, rfl, rfl, rfl, rfl, rfl, rfl, rfl, rfl, rfl, trivial⟩, ⟨bool_fin (by rw [wrong, hb0] <;> rfl), trivial⟩, trivial⟩
        · simp only [catE]
          refine e_cond rfl ?_ ?_
          · intro hc3
            rw [first1_at (by omega) hf0_1, first1, if_neg (by omega), any_at (by omega) hc3, if_pos rfl]
            refine Qs<|Qp<|(Qa)<|Qn<|Qr ?_
            first | rw [first1_none (fun q hq => hf0_1 q (by omega))] | skip
            exact ⟨_, rfl, .tmp rfl⟩
          · intro hc3
            have hcf := hc3
            refine Qk<|Qp<|(Q2 1)<|(Qm)<|Qn ?_
            refine QzL ⟨j + 1, rfl, rfl, rfl, by omega, fun p h => by by_cases e : p = j; (subst e; exact hcf); exact hf1_1 p (by omega)⟩ ⟨rfl, rfl, rfl, rfl, rfl, rfl, trivial⟩ trivial ?_
            omega
      · intro hc2
        have hc2 := of_decide_eq_false hc2
        have hz1 : j = (ls.getD i []).length := by omega
        refine Qe<|Qp<|(Q2 1)<|(Qm)<|Qn ?_
        refine QzL ⟨i + 1, rfl, rfl, rfl, by omega, fun q h => by by_cases e : q = i; (subst e; exact ⟨by omega, any_none (fun p hp => hf1_1 p (by omega))⟩); exact hf0_1 q (by omega)⟩ ⟨rfl, rfl, rfl, trivial⟩ trivial ?_
        omega
  · intro hc0
    have hc0 := of_decide_eq_false hc0
    have hz0 : i = vs.length := by omega
    refine Qe<|Qs<|Qp<|(Qa)<|Qn<|Qr ?_
    first | rw [first1_none (fun q hq => hf0_1 q (by omega))] | skip
    exact ⟨_, rfl, .tmp rfl⟩
end Go.Proofs.Ytejejmhbhegneaa
namespace Go.Proofs.Ytejejmhbhegneaa
open Go Go.RowKit
variable {G : Mem}
set_option maxHeartbeats 4000000 in
theorem ahead_fn (r : Nat) (es : List Ev) (w : Nat) (hw : w < 2) (v : Value) (l : List Nat) (hv : Shows G 1 v l.length ((ci l).map iv)) (ht : ∀ x ∈ l, 1 ≤ x ∧ x ≤ 7) (hz : l.length ≤ 1000) : Fx Try.prog G [(⟨r, kst (stE es), 40⟩ : Blk)] 11 #[ptr r, ii w, v] (fun u l1 nw => nw = [] ∧ ∃ c', l1 = [⟨r, c', 40⟩] ∧ (u = Value.bool (okPR es w l) ∧ ((okPR es w l) = true → c' = kst (stE (es ++ rowE w l))))) := by
  refine fxWS (n := 29) Try.func11 rfl rfl (by simp) (argE [ptr r, ii w, v] 0) (argE_ok _) ?_
  refine Qs<|Qp<|(Qa)<|Qn<|Qs<|Qs<|Qp<|(Qm)<|(QC hv)<|(Qm)<|Qn<|Qb ?_
  refine QzK [(0, _), (1, _), (9, _), (10, _)] [] (fun kk E m => ∃ (j : Nat), kk = l.length - j ∧ E = [(11, ii j)] ∧ m = [(0, some ⟨r, kst (stE (es ++ (rowE w l).take j)), 40⟩)] ∧ (j ≤ l.length) ∧ (∀ t, t < j → okPre (es ++ (rowE w l).take t) (w, l.getD t 0) = true)) ⟨0, rfl, rfl, rfl, by omega, fun t ht => absurd ht (Nat.not_lt_zero t)⟩ ⟨rfl, rfl, rfl, rfl, rfl, trivial⟩ ⟨(by rw [rowE_zero] <;> rfl), trivial⟩ ?_
  rintro kk E m ⟨j, rfl, rfl, rfl, hf0_0, hf0_1⟩
  simp only [catE, catL]
  refine Qs<|Qp<|(Ql)<|Qn<|Qs ?_
  refine e_cond rfl ?_ ?_
  · intro hc0
    have hc0 : j < l.length := by have := of_decide_eq_true hc0; omega
    refine Qk<|Qs<|Qb<|Qs<|Qp ?_
    refine e_atV hv (Uu 22) (Uz 3) rfl rfl (by omega) rfl ?_
    refine (QS) ?_
    refine e_loadV hv seenG (Uu 3) rfl rfl (ci_at (by omega)) rfl ?_
    refine e_gen_i fun x hx => ?_
    refine (Qa)<|Qn ?_
    have hx9 := ht (l.getD j 0) (by rw [List.getD_eq_getElem?_getD, List.getElem?_eq_getElem (by omega)]; exact List.getElem_mem _)
    rw [← hx] at hx9
    refine Qs ?_
    rcases (by omega : x = 1 ∨ x = 2 ∨ 2 < x) with e1 | e2 | e3
    · skip
      refine QR ⟨[], 5, [], none⟩<|(Qm)<|(QN)<|(Qaf)<|(Qm)<|(Qo)<|(Qo)<|(QF)<|(Qm)<|(Qy)<|(Qm)<|(Qy)<|(Qm)<|(Qy)<|(Qm)<|(Qy) ?_
      refine e_callWS 0 rfl rfl (Un 14) rfl (fun _ h => by cases h) (tell_fn (G := []) r (es ++ (rowE w l).take j) w x hw (.inl e1)) ⟨_, _, rfl, fun _ => rfl⟩ rfl rfl fun v3_1 c3_1 hS3_1 => ?_
      obtain ⟨rfl, hq1⟩ := hS3_1
      refine (Qy)<|(Q0)<|(QF)<|Qn ?_
      refine e_cond rfl ?_ ?_
      · intro hc1
        have hap1 : hap (es ++ (rowE w l).take j) w x = true := by simpa using hc1
        have hbad : okPre (es ++ (rowE w l).take j) (w, l.getD j 0) = false := by rw [okPre_tok, ← hx, hap1]; simp
        have hrow := okPR_bad (show j < l.length by omega) hbad
        refine Qs<|Qp<|(Qa)<|Qn<|Qr ?_
        exact ⟨_, _, _, rfl, .tmp rfl, (by first | exact ⟨by rw [hrow], fun h => by rw [hrow] at h; cases h⟩ | (rw [hz0, rowE_all]; exact ⟨by rw [okPR_ok (fun t h => hf0_1 t (by omega))], fun _ => rfl⟩)), 0, rfl⟩
      · intro hc1
        have hap0 : hap (es ++ (rowE w l).take j) w x = false := by simpa using hc1
        have hok : okPre (es ++ (rowE w l).take j) (w, l.getD j 0) = true := by rw [okPre_tok, ← hx, hap0, decide_eq_true (by omega)]; rfl
        obtain rfl := hq1 (by rw [hap0]; rfl)
        refine Qk<|Qp<|(Q2 1)<|(Qm)<|Qn ?_
        refine QzL ⟨j + 1, rfl, rfl, rfl, by omega, fun t ht => by rcases (by omega : t < j ∨ t = j) with h | rfl; exact hf0_1 t h; exact hok⟩ ⟨rfl, rfl, rfl, rfl, rfl, trivial⟩ ⟨(by rw [rowE_next (by omega), ← hx] <;> rfl), trivial⟩ ?_
        omega
    · skip
      refine QR ⟨[], 5, [], none⟩<|(Qm)<|(QN)<|(Qat)<|(Qm)<|(Qy)<|(Qm)<|(Qy)<|(QN)<|(Qaf)<|(QT)<|(Qm)<|(Qy)<|(Qm)<|(Qy)<|(Qm)<|(Qy)<|(Qm)<|(Qy) ?_
      refine e_callWS 0 rfl rfl (Un 14) rfl (fun _ h => by cases h) (tell_fn (G := []) r (es ++ (rowE w l).take j) w x hw (.inr e2)) ⟨_, _, rfl, fun _ => rfl⟩ rfl rfl fun v3_1 c3_1 hS3_1 => ?_
      obtain ⟨rfl, hq1⟩ := hS3_1
      refine (Qy)<|(Q0)<|(QF)<|Qn ?_
      refine e_cond rfl ?_ ?_
      · intro hc1
        have hap1 : hap (es ++ (rowE w l).take j) w x = true := by simpa using hc1
        have hbad : okPre (es ++ (rowE w l).take j) (w, l.getD j 0) = false := by rw [okPre_tok, ← hx, hap1]; simp
        have hrow := okPR_bad (show j < l.length by omega) hbad
        refine Qs<|Qp<|(Qa)<|Qn<|Qr ?_
        exact ⟨_, _, _, rfl, .tmp rfl, (by first | exact ⟨by rw [hrow], fun h => by rw [hrow] at h; cases h⟩ | (rw [hz0, rowE_all]; exact ⟨by rw [okPR_ok (fun t h => hf0_1 t (by omega))], fun _ => rfl⟩)), 0, rfl⟩
      · intro hc1
        have hap0 : hap (es ++ (rowE w l).take j) w x = false := by simpa using hc1
        have hok : okPre (es ++ (rowE w l).take j) (w, l.getD j 0) = true := by rw [okPre_tok, ← hx, hap0, decide_eq_true (by omega)]; rfl
        obtain rfl := hq1 (by rw [hap0]; rfl)
        refine Qk<|Qp<|(Q2 1)<|(Qm)<|Qn ?_
        refine QzL ⟨j + 1, rfl, rfl, rfl, by omega, fun t ht => by rcases (by omega : t < j ∨ t = j) with h | rfl; exact hf0_1 t h; exact hok⟩ ⟨rfl, rfl, rfl, rfl, rfl, trivial⟩ ⟨(by rw [rowE_next (by omega), ← hx] <;> rfl), trivial⟩ ?_
        omega
    · skip
      refine Qp<|(Qm)<|(QN)<|(Qat)<|(Qm)<|(Qy)<|(Qm)<|(Qy)<|(QN)<|(Qat)<|(QT)<|(Qm)<|(Qo)<|(Qo)<|(Qo)<|(Qo)<|(Qo)<|(QT)<|Qn<|(Qct) ?_
      have hbad : okPre (es ++ (rowE w l).take j) (w, l.getD j 0) = false := by rw [okPre_tok, ← hx, decide_eq_false (by omega)]; rfl
      have hrow := okPR_bad (show j < l.length by omega) hbad
      refine Qs<|Qp<|(Qa)<|Qn<|Qr ?_
      exact ⟨_, _, _, rfl, .tmp rfl, (by first | exact ⟨by rw [hrow], fun h => by rw [hrow] at h; cases h⟩ | (rw [hz0, rowE_all]; exact ⟨by rw [okPR_ok (fun t h => hf0_1 t (by omega))], fun _ => rfl⟩)), 0, rfl⟩
  · intro hc0
    have hc0 := of_decide_eq_false hc0
    have hz0 : j = l.length := by omega
    refine Qe<|Qs<|Qp<|(Qa)<|Qn<|Qr ?_
    exact ⟨_, _, _, rfl, .tmp rfl, (by first | exact ⟨by rw [hrow], fun h => by rw [hrow] at h; cases h⟩ | (rw [hz0, rowE_all]; exact ⟨by rw [okPR_ok (fun t h => hf0_1 t (by omega))], fun _ => rfl⟩)), 0, rfl⟩
end Go.Proofs.Ytejejmhbhegneaa
namespace Go.Proofs.Ytejejmhbhegneaa
open Go Go.RowKit
variable {G : Mem}
set_option maxHeartbeats 2000000 in
theorem mix_fn (r : Nat) (es : List Ev) (w t : Nat) (h3 : 3 ≤ t) (h6 : t ≤ 6) : Fx Try.prog G [(⟨r, kst (stE es), 40⟩ : Blk)] 17 #[ptr r, ii t] (fun v l1 nw => nw = [] ∧ ∃ c', l1 = [⟨r, c', 40⟩] ∧ (v = Value.bool (okT es w t) ∧ ((okT es w t) = true → c' = kst (stE (es ++ [(w, t)]))))) := by
  have hl0 := ltr_in t 0
  have hl1 := ltr_in t 1
  have hmb := mixB_stE (es := es) (w := w) h3 h6
  refine fxWS (n := 41) Try.func17 rfl rfl (by simp) (argE [ptr r, ii t] 0) (argE_ok _) ?_
  refine Qs<|Qp<|(Qa)<|Qn<|Qs<|Qp<|(Qm) ?_
  refine e_call rfl (Un 18) (letters_fn t) rfl rfl ?_
  refine (QH 1) fun r2=>(Qt 1)<|Qn<|Qs<|Qs<|(Qg) ?_
  refine e_join [(0, _), (1, _), (4, _), (5, _), (6, _), (7, _)] [(35, .bool (mixB (stE es) t))] [(0, some _), (1, some _)] ⟨rfl, rfl, rfl, rfl, rfl, rfl, trivial⟩ ⟨rfl, rfl, trivial⟩ ?_ ?_
  · skip
    refine (Qm)<|(Qm) ?_
    refine e_nilCheck rfl rfl ?_
    refine (Qf 6)<|(QB (6 + t)) ?_
    refine e_load1 (i := 0) (Uu 4) rfl rfl rfl (arrv_get (by omega)) rfl ⟨[], trivial⟩ ?_
    refine e_as (show _ = Value.bool (stE es (6 + t)) from rfl) ?_
    refine (Qm) ?_
    refine e_case (fun hb0 => ?_) (fun hb0 => ?_)
    · skip
      refine (Qo)<|(Qo)<|(Qo)<|(Qo)<|(Qo)<|(Qo)<|(Qo)<|(Qo)<|(Qo)<|(QT)<|(Qm)<|(Qo)<|(Qo)<|(Qo)<|(Qo)<|(Qo)<|(Qo)<|(Qo)<|(Qo)<|(Qo)<|(QT)<|Qn ?_
      exact ⟨⟨rfl, rfl, rfl, rfl, rfl, rfl, trivial⟩, ⟨bool_fin (by rw [mixB, hb0] <;> rfl), trivial⟩, ⟨rfl, rfl, trivial⟩⟩
    · skip
      refine (Qy)<|(Qm)<|(Qy)<|(Qj 0)<|(Qy)<|(Q1 1)<|(Qy) ?_
      refine e_nilCheck rfl rfl ?_
      refine (Qy)<|(Qf 0)<|(Qy)<|(QA 0 0)<|(Qy)<|(Qi)<|(Qy) ?_
      refine e_load1 (i := 0) (Uu 4) rfl rfl rfl (arrv_get (by omega)) rfl ⟨[], trivial⟩ ?_
      refine e_as (show _ = Value.bool (stE es (ltr t 0)) by first | rfl | (rw [Nat.zero_add])) ?_
      refine (Qy)<|(Q0)<|(QF)<|(Qm) ?_
      refine e_case (fun hb1 => ?_) (fun hb1 => ?_)
      · skip
        refine (Qo)<|(Qo)<|(Qo)<|(Qo)<|(Qo)<|(Qo)<|(Qo)<|(Qo)<|(Qo)<|(QT)<|Qn ?_
        exact ⟨⟨rfl, rfl, rfl, rfl, rfl, rfl, trivial⟩, ⟨bool_fin (by rw [mixB, hb0, hb1] <;> rfl), trivial⟩, ⟨rfl, rfl, trivial⟩⟩
      · skip
        refine (Qy)<|(Qm)<|(Qy)<|(Qj 1)<|(Qy)<|(Q1 1)<|(Qy) ?_
        refine e_nilCheck rfl rfl ?_
        refine (Qy)<|(Qf 0)<|(Qy)<|(QA 3 1)<|(Qy)<|(QB (3 + ltr t 1))<|(Qy) ?_
        refine e_load1 (i := 0) (Uu 4) rfl rfl rfl (arrv_get (by omega)) rfl ⟨[], trivial⟩ ?_
        refine e_as (show _ = Value.bool (stE es (3 + ltr t 1)) from rfl) ?_
        refine (Qy)<|(Q0)<|(QF)<|Qn ?_
        exact ⟨⟨rfl, rfl, rfl, rfl, rfl, rfl, trivial⟩, ⟨bool_fin (by rw [mixB, hb0, hb1] <;> rfl), trivial⟩, ⟨rfl, rfl, trivial⟩⟩
  · simp only [catE]
    refine e_cond rfl ?_ ?_
    · intro hc0
      have hno : okT es w t = false := by rw [hc0] at hmb; simpa using hmb
      refine Qs<|Qp<|(Qa)<|Qn<|Qr ?_
      exact ⟨_, _, _, rfl, .tmp rfl, (by first | exact ⟨by rw [hno], fun _ => kst_tok h3 (by omega)⟩ | exact ⟨by rw [hno], fun h => by rw [hno] at h; cases h⟩), 0, rfl⟩
    · intro hc0
      have hno : okT es w t = true := by rw [hc0] at hmb; simpa using hmb
      refine Qk<|Qs<|Qp<|(Qm)<|(Qm) ?_
      refine e_nilCheck rfl rfl ?_
      refine (Qf 6)<|(QB (6 + t)) ?_
      refine e_st1 (i := 0) (Uz 4) rfl rfl rfl rfl (by omega) (.inl rfl) ?_
      refine Qn<|Qs<|Qp<|(Qa)<|Qn<|Qr ?_
      exact ⟨_, _, _, rfl, .tmp rfl, (by first | exact ⟨by rw [hno], fun _ => kst_tok h3 (by omega)⟩ | exact ⟨by rw [hno], fun h => by rw [hno] at h; cases h⟩), 0, rfl⟩
end Go.Proofs.Ytejejmhbhegneaa
namespace Go.Proofs.Ytejejmhbhegneaa
open Go Go.RowKit
variable {G : Mem}
set_option maxHeartbeats 2000000 in
theorem say_fn (r : Nat) (es : List Ev) (w x : Nat) (hw : w < 2) (h1 : 1 ≤ x) (h7 : x ≤ 7) : Fx Try.prog G [(⟨r, kst (stE es), 40⟩ : Blk)] 15 #[ptr r, ii w, ii x] (fun v l1 nw => nw = [] ∧ ∃ c', l1 = [⟨r, c', 40⟩] ∧ (v = Value.bool (okT es w x) ∧ ((okT es w x) = true → c' = kst (stE (es ++ [(w, x)]))))) := by
  refine fxWS (n := 35) Try.func15 rfl rfl (by simp) (argE [ptr r, ii w, ii x] 0) (argE_ok _) ?_
  refine Qs<|Qp<|(Qa)<|Qn<|Qs<|Qs<|Qp<|(Qm)<|Qn<|Qb<|Qs<|Qp<|(Qc)<|(Qa)<|Qn ?_
  refine e_cond rfl ?_ ?_
  · intro hc0
    obtain rfl : x = 1 := by have := of_decide_eq_true hc0; omega
    refine Qs<|QR ⟨[], 5, [], none⟩<|(Qm)<|(Qm)<|(Qm) ?_
    refine e_callWS 0 rfl rfl (Un 14) rfl (fun _ h => by cases h) (tell_fn (G := []) r es w 1 hw (.inl rfl)) ⟨_, _, rfl, fun _ => rfl⟩ rfl rfl fun v2_1 c2_1 hS2_1 => ?_
    obtain ⟨rfl, hq1⟩ := hS2_1
    refine (Qa)<|Qn<|Qr ?_
    exact ⟨_, _, _, rfl, .tmp rfl, (by first | exact ⟨by rw [okT_one]; rfl, fun h => hq1 (by rw [okT_one] at h; exact h)⟩ | exact ⟨by rw [okT_two hw, hml]; rfl, fun h => hq2 (by rw [okT_two hw, hml] at h; exact h)⟩ | exact ⟨by rw [okT_two hw, hml]; rfl, fun h => by rw [okT_two hw, hml] at h; cases h⟩ | exact ⟨rfl, fun _ => kst_tok (by decide) (by decide)⟩ | exact ⟨rfl, hq4⟩), 0, rfl⟩
  · intro hc0
    have hx1 : ¬ x = 1 := by have := of_decide_eq_false hc0; omega
    refine Qs<|Qp<|(Qc)<|(Qa)<|Qn ?_
    refine e_cond rfl ?_ ?_
    · intro hc1
      obtain rfl : x = 2 := by have := of_decide_eq_true hc1; omega
      refine Qs ?_
      cases hml : mlS (stE es) w
      · skip
        refine Qp<|(Qm)<|(Qm) ?_
        refine e_callV [_] rfl rfl (Un 16) ⟨⟨0, rfl⟩, trivial⟩ (dlock_fn (G := []) r (stE es) w hw) rfl rfl rfl ?_
        refine e_as (congrArg Value.bool hml) ?_
        refine (Qm)<|(Qo)<|(Qo)<|(Qo)<|(Qo)<|(QF)<|(Qa)<|Qn<|Qr ?_
        exact ⟨_, _, _, rfl, .tmp rfl, (by first | exact ⟨by rw [okT_one]; rfl, fun h => hq1 (by rw [okT_one] at h; exact h)⟩ | exact ⟨by rw [okT_two hw, hml]; rfl, fun h => hq2 (by rw [okT_two hw, hml] at h; exact h)⟩ | exact ⟨by rw [okT_two hw, hml]; rfl, fun h => by rw [okT_two hw, hml] at h; cases h⟩ | exact ⟨rfl, fun _ => kst_tok (by decide) (by decide)⟩ | exact ⟨rfl, hq4⟩), 0, rfl⟩
      · skip
        refine QR ⟨[], 5, [], none⟩<|(Qm)<|(Qm) ?_
        refine e_callV [_] rfl rfl (Un 16) ⟨⟨0, rfl⟩, trivial⟩ (dlock_fn (G := []) r (stE es) w hw) rfl rfl rfl ?_
        refine e_as (congrArg Value.bool hml) ?_
        refine (Qm)<|(Qy)<|(Qm)<|(Qy)<|(Qm)<|(Qy)<|(Qm)<|(Qy) ?_
        refine e_callWS 0 rfl rfl (Un 14) rfl (fun _ h => by cases h) (tell_fn (G := []) r es w 2 hw (.inr rfl)) ⟨_, _, rfl, fun _ => rfl⟩ rfl rfl fun v4_1 c4_1 hS4_1 => ?_
        obtain ⟨rfl, hq2⟩ := hS4_1
        refine (QT)<|(Qa)<|Qn<|Qr ?_
        exact ⟨_, _, _, rfl, .tmp rfl, (by first | exact ⟨by rw [okT_one]; rfl, fun h => hq1 (by rw [okT_one] at h; exact h)⟩ | exact ⟨by rw [okT_two hw, hml]; rfl, fun h => hq2 (by rw [okT_two hw, hml] at h; exact h)⟩ | exact ⟨by rw [okT_two hw, hml]; rfl, fun h => by rw [okT_two hw, hml] at h; cases h⟩ | exact ⟨rfl, fun _ => kst_tok (by decide) (by decide)⟩ | exact ⟨rfl, hq4⟩), 0, rfl⟩
    · intro hc1
      have hx2 : ¬ x = 2 := by have := of_decide_eq_false hc1; omega
      refine Qs<|Qp<|(Qc)<|(Qa)<|Qn ?_
      refine e_cond rfl ?_ ?_
      · intro hc2
        obtain rfl : x = 7 := by have := of_decide_eq_true hc2; omega
        refine Qs<|Qp<|(Qm)<|(Qm) ?_
        refine e_nilCheck rfl rfl ?_
        refine (Qf 6) ?_
        refine e_at (6 + 7) (Uu 38) (Uz 4) rfl rfl (by decide) (by omega) rfl ?_
        refine e_st1 (i := 0) (Uz 4) rfl rfl rfl rfl (by omega) (.inl rfl) ?_
        refine Qn<|Qs<|Qp<|(Qa)<|Qn<|Qr ?_
        exact ⟨_, _, _, rfl, .tmp rfl, (by first | exact ⟨by rw [okT_one]; rfl, fun h => hq1 (by rw [okT_one] at h; exact h)⟩ | exact ⟨by rw [okT_two hw, hml]; rfl, fun h => hq2 (by rw [okT_two hw, hml] at h; exact h)⟩ | exact ⟨by rw [okT_two hw, hml]; rfl, fun h => by rw [okT_two hw, hml] at h; cases h⟩ | exact ⟨rfl, fun _ => kst_tok (by decide) (by decide)⟩ | exact ⟨rfl, hq4⟩), 0, rfl⟩
      · intro hc2
        have hx7 : ¬ x = 7 := by have := of_decide_eq_false hc2; omega
        refine Qk<|Qs<|QR ⟨[], 5, [], none⟩<|(Qm)<|(Qm) ?_
        refine e_callWS 0 rfl rfl (Un 17) rfl (fun _ h => by cases h) (mix_fn (G := []) r es w x (by omega) (by omega)) ⟨_, _, rfl, fun _ => rfl⟩ rfl rfl fun v4_1 c4_1 hS4_1 => ?_
        obtain ⟨rfl, hq4⟩ := hS4_1
        refine (Qa)<|Qn<|Qr ?_
        exact ⟨_, _, _, rfl, .tmp rfl, (by first | exact ⟨by rw [okT_one]; rfl, fun h => hq1 (by rw [okT_one] at h; exact h)⟩ | exact ⟨by rw [okT_two hw, hml]; rfl, fun h => hq2 (by rw [okT_two hw, hml] at h; exact h)⟩ | exact ⟨by rw [okT_two hw, hml]; rfl, fun h => by rw [okT_two hw, hml] at h; cases h⟩ | exact ⟨rfl, fun _ => kst_tok (by decide) (by decide)⟩ | exact ⟨rfl, hq4⟩), 0, rfl⟩
end Go.Proofs.Ytejejmhbhegneaa
namespace Go.Proofs.Ytejejmhbhegneaa
open Go Go.RowKit
variable {G : Mem}
set_option maxHeartbeats 4000000 in
theorem turn_fn (r : Nat) (es : List Ev) (w : Nat) (hw : w < 2) (v : Value) (l : List Nat) (hv : Shows G 1 v l.length ((ci l).map iv)) (ht : ∀ x ∈ l, 1 ≤ x ∧ x ≤ 7) (hz : l.length ≤ 1000) : Fx Try.prog G [(⟨r, kst (stE es), 40⟩ : Blk)] 12 #[ptr r, ii w, v] (fun u l1 nw => nw = [] ∧ ∃ c', l1 = [⟨r, c', 40⟩] ∧ (u = Value.bool (okTR es w l) ∧ ((okTR es w l) = true → c' = kst (stE (es ++ rowE w (l ++ [0])))))) := by
  refine fxWS (n := 24) Try.func12 rfl rfl (by simp) (argE [ptr r, ii w, v] 0) (argE_ok _) ?_
  refine Qs<|Qp<|(Qa)<|Qn<|Qs<|Qs<|Qp<|(Qm)<|(QC hv)<|(Qm)<|Qn<|Qb ?_
  refine QzK [(0, _), (1, _), (9, _), (10, _)] [] (fun kk E m => ∃ (j : Nat), kk = l.length - j ∧ E = [(11, ii j)] ∧ m = [(0, some ⟨r, kst (stE (es ++ (rowE w l).take j)), 40⟩)] ∧ (j ≤ l.length) ∧ (∀ t, t < j → okT (es ++ (rowE w l).take t) w (l.getD t 0) = true)) ⟨0, rfl, rfl, rfl, by omega, fun t ht => absurd ht (Nat.not_lt_zero t)⟩ ⟨rfl, rfl, rfl, rfl, rfl, trivial⟩ ⟨(by rw [rowE_zero] <;> rfl), trivial⟩ ?_
  rintro kk E m ⟨j, rfl, rfl, rfl, hf0_0, hf0_1⟩
  simp only [catE, catL]
  refine Qs<|Qp<|(Ql)<|Qn<|Qs ?_
  refine e_cond rfl ?_ ?_
  · intro hc0
    have hc0 : j < l.length := by have := of_decide_eq_true hc0; omega
    refine Qk<|Qs<|Qb<|Qs<|Qp ?_
    refine e_atV hv (Uu 22) (Uz 3) rfl rfl (by omega) rfl ?_
    refine (QS) ?_
    refine e_loadV hv seenG (Uu 3) rfl rfl (ci_at (by omega)) rfl ?_
    refine e_gen_i fun x hx => ?_
    refine (Qa)<|Qn ?_
    have hx9 := ht (l.getD j 0) (by rw [List.getD_eq_getElem?_getD, List.getElem?_eq_getElem (by omega)]; exact List.getElem_mem _)
    rw [← hx] at hx9
    refine Qs<|QR ⟨[], 5, [], none⟩<|(Qm)<|(Qm)<|(Qm) ?_
    refine e_callWS 0 rfl rfl (Un 15) rfl (fun _ h => by cases h) (say_fn (G := []) r (es ++ (rowE w l).take j) w x hw hx9.1 hx9.2) ⟨_, _, rfl, fun _ => rfl⟩ rfl rfl fun v2_1 c2_1 hS2_1 => ?_
    obtain ⟨rfl, hq1⟩ := hS2_1
    refine (Q0)<|Qn ?_
    refine e_cond rfl ?_ ?_
    · intro hc1
      have hrow : okTR es w l = false := okTR_bad (show j < l.length by omega) (by rw [← hx]; simpa using hc1)
      refine Qs<|Qp<|(Qa)<|Qn<|Qr ?_
      exact ⟨_, _, _, rfl, .tmp rfl, (by first | exact ⟨by rw [hrow], fun h => by rw [hrow] at h; cases h⟩ | (rw [hz0, rowE_all, okTR_fin (fun t h => hf0_1 t (by omega)), okT_zero hw]; exact ⟨rfl, fun _ => kst_rowZ⟩)), 0, rfl⟩
    · intro hc1
      have hok0 : okT (es ++ (rowE w l).take j) w x = true := by simpa using hc1
      have hok : okT (es ++ (rowE w l).take j) w (l.getD j 0) = true := by rw [← hx]; exact hok0
      obtain rfl := hq1 hok0
      refine Qk<|Qp<|(Q2 1)<|(Qm)<|Qn ?_
      refine QzL ⟨j + 1, rfl, rfl, rfl, by omega, fun t ht => by rcases (by omega : t < j ∨ t = j) with h | rfl; exact hf0_1 t h; exact hok⟩ ⟨rfl, rfl, rfl, rfl, rfl, trivial⟩ ⟨(by rw [rowE_next (by omega), ← hx] <;> rfl), trivial⟩ ?_
      omega
  · intro hc0
    have hc0 := of_decide_eq_false hc0
    have hz0 : j = l.length := by omega
    refine Qe<|Qs<|Qp<|(Qm)<|(Qm) ?_
    refine e_callV [_] rfl rfl (Un 16) ⟨⟨0, rfl⟩, trivial⟩ (dlock_fn (G := []) r _ w hw) rfl rfl rfl ?_
    refine (Qa)<|Qn<|Qr ?_
    exact ⟨_, _, _, rfl, .tmp rfl, (by first | exact ⟨by rw [hrow], fun h => by rw [hrow] at h; cases h⟩ | (rw [hz0, rowE_all, okTR_fin (fun t h => hf0_1 t (by omega)), okT_zero hw]; exact ⟨rfl, fun _ => kst_rowZ⟩)), 0, rfl⟩
end Go.Proofs.Ytejejmhbhegneaa
namespace Go.Proofs.Ytejejmhbhegneaa
open Go Go.RowKit
variable {G : Mem}
set_option maxHeartbeats 8000000 in
theorem inform_fn (base : List Nat) (late : Bool) (vp v0 v1 vt : Value) (tvs : List Value) (q0 q1 : List Nat) (us : List (List Nat)) (hvt : Shows G 1 vt tvs.length tvs) (hLI : ShowsLI G (v0 :: v1 :: tvs) (ci q0 :: ci q1 :: us.map ci)) (htk : ∀ q ∈ q0 :: q1 :: us, q.length ≤ 6 ∧ ∀ x ∈ q, 1 ≤ x ∧ x ≤ 7) (hn5 : us.length ≤ 5) : Fn Try.prog G 7 #[.agg (cells 6 [pV (sv base), pV (.bool late), pV vp, pV v0, pV v1, pV vt])] (.bool (decide (fin3 (evL late q0 q1 us) = 0))) := by
  have hT := li_tail (li_tail hLI)
  have hv0 := li_head hLI
  have hv1 := li_head (li_tail hLI)
  have hvq := pre_shows hv0 hv1
  have htl : tvs.length = us.length := by have := hT.1; rwa [List.length_map] at this
  obtain ⟨L, hL⟩ : ∃ L, L = evL late q0 q1 us := ⟨_, rfl⟩
  have hLl : L.length = 2 + us.length := by rw [hL]; exact evL_len
  have hLa : ∀ a, a < 2 → L.getD a [] = rowE a (qq q0 q1 a) := fun a ha => by rw [hL]; exact evL_pre ha
  have hLt : ∀ i, i < us.length → L.getD (2 + i) [] = rowE (whoT late i) (us.getD i [] ++ [0]) := fun i hi => by rw [hL]; exact evL_turn hi
  rw [← hL]
  have hqt : ∀ a, (qq q0 q1 a).length ≤ 6 ∧ ∀ x ∈ qq q0 q1 a, 1 ≤ x ∧ x ≤ 7 := fun a => by unfold qq; split; exact htk q0 (by simp); exact htk q1 (by simp)
  have hut : ∀ i, i < us.length → (us.getD i []).length ≤ 6 ∧ ∀ x ∈ us.getD i [], 1 ≤ x ∧ x ≤ 7 := fun i hi => htk _ (by rw [List.getD_eq_getElem?_getD, List.getElem?_eq_getElem hi]; simp)
  refine Qf1 Try.func7 ?_
  refine Qs<|Qp<|(Qh 0) fun r1=>(Qa)<|Qn<|Qs<|Qp<|(QH 1) fun r2=>Qn<|Qs<|Qs<|Qp<|(Qf 3) ?_
  refine e_ldP (i := 0) (Uu 23) rfl (Uz 23) rfl rfl (by decide) rfl ⟨[], trivial⟩ ?_
  refine e_as (show _ = Value.agg (arrv 2 (fun t => vq v0 v1 t)) from congrArg Value.agg (arrv_congr fun j hj => by have h9 : j = 0 ∨ j = 1 := (by omega); rcases h9 with rfl | rfl <;> rfl)) ?_
  refine (Qm)<|Qn<|Qb ?_
  refine QzK [(1, _), (3, _), (10, _)] [(0, _)] (fun kk E m => ∃ (a : Nat), kk = 2 - a ∧ E = [(11, ii a)] ∧ m = [(1, some ⟨r2, kst (stE (uptoE L a 0)), 40⟩)] ∧ (a ≤ 2) ∧ (∀ s t, s < a → t < (L.getD s []).length → okAt L s t = true)) ⟨0, rfl, rfl, rfl, by omega, fun _ _ h => absurd h (Nat.not_lt_zero _)⟩ ⟨rfl, rfl, rfl, rfl, trivial⟩ ⟨(by rw [uptoE_zero, show (kst (stE []) : Array Value) = _ from arrv_congr fun j _ => by rw [stE_nil]] <;> rfl), rfl, trivial⟩ ?_
  rintro kk E m ⟨a, rfl, rfl, rfl, hf0_0, hf0_1⟩
  simp only [catE, catL]
  refine Qs<|Qp<|(Ql)<|Qn<|Qs ?_
  refine e_cond rfl ?_ ?_
  · intro hc0
    have hc0 : a < 2 := by have := of_decide_eq_true hc0; omega
    refine Qk<|Qs<|Qb<|Qs<|Qp<|(Qm) ?_
    refine e_idxP (Uu 23) (Uu 22) rfl (Uz 22) rfl rfl (by omega) rfl ?_
    refine (Qa)<|(Qa)<|Qn<|Qs<|QR ⟨[], 5, [], none⟩<|(Qm)<|(Qm) ?_
    refine e_callWS 1 rfl rfl (Un 11) rfl (fun z hz => .inl hz) (ahead_fn (G := G) r2 (uptoE L a 0) a (by omega) (vq v0 v1 a) (qq q0 q1 a) (hvq a (by omega)) (hqt a).2 (by have := (hqt a).1; omega)) ⟨_, _, rfl, fun _ => rfl⟩ rfl rfl fun v2_1 c2_1 hS2_1 => ?_
    obtain ⟨rfl, hq1⟩ := hS2_1
    refine (Q0)<|Qn ?_
    refine e_cond rfl ?_ ?_
    · intro hc1
      have hbad : okPR (uptoE L a 0) a (qq q0 q1 a) = false := by simpa using hc1
      rw [pre_bad (by omega) (by omega) (hLa a (by omega)) hbad]
      refine Qs<|Qp<|(Qa)<|Qn<|Qr ?_
      first | rw [fin3_ok (fun s t hs ht => by by_cases h2 : s < 2; exact hf0_1 s t (by omega) ht; (obtain ⟨s, rfl⟩ : ∃ r, s = 2 + r := ⟨s - 2, by omega⟩); exact hf1_1 s t (by omega) ht)] | skip
      exact ⟨_, rfl, .tmp rfl⟩
    · intro hc1
      have hok : okPR (uptoE L a 0) a (qq q0 q1 a) = true := by simpa using hc1
      obtain rfl := hq1 hok
      refine Qk<|Qp<|(Q2 1)<|(Qm)<|Qn ?_
      refine QzL ⟨a + 1, rfl, rfl, rfl, by omega, fun s t hs ht => by by_cases e : s = a; (subst e; exact pre_ok (by omega) (hLa s (by omega)) hok t ht); exact hf0_1 s t (by omega) ht⟩ ⟨rfl, rfl, rfl, rfl, trivial⟩ ⟨(by rw [← row_next (by omega), hLa a (by omega)] <;> rfl), rfl, trivial⟩ ?_
      omega
  · intro hc0
    have hc0 := of_decide_eq_false hc0
    have hz0 : a = 2 := by omega
    refine Qe<|Qs<|Qp<|(Qa)<|Qn<|Qs<|Qs<|Qp<|(Qf 1)<|(QV 1 0)<|Qn ?_
    refine s_join [(1, _), (3, _), (10, _), (11, _), (12, _), (20, _), (21, _)] [(6, ii (whoT late 0))] [(0, some _), (1, some _)] ⟨rfl, rfl, rfl, rfl, rfl, rfl, rfl, trivial⟩ ⟨rfl, rfl, trivial⟩ ?_ ?_
    · skip
      refine e_cond rfl ?_ ?_
      · intro hc2
        have hcL := hc2
        refine Qp<|(Qa)<|Qn ?_
        exact ⟨⟨rfl, rfl, rfl, rfl, rfl, rfl, rfl, trivial⟩, ⟨(by rw [whoT, hcL] <;> rfl), trivial⟩, ⟨rfl, rfl, trivial⟩⟩
      · intro hc2
        have hcL := hc2
        refine Qk ?_
        exact ⟨⟨rfl, rfl, rfl, rfl, rfl, rfl, rfl, trivial⟩, ⟨(by rw [whoT, hcL] <;> rfl), trivial⟩, ⟨rfl, rfl, trivial⟩⟩
    · simp only [catE]
      refine Qs<|Qs<|Qp<|(Qf 5)<|(QV 5 0)<|(QC hvt)<|(Qm)<|Qn<|Qb ?_
      refine QzK [(1, _), (3, _), (10, _), (11, _), (23, _), (24, _)] [(0, _)] (fun kk E m => ∃ (i : Nat), kk = tvs.length - i ∧ E = [(6, ii (whoT late i)), (25, ii i)] ∧ m = [(1, some ⟨r2, kst (stE (uptoE L (2 + i) 0)), 40⟩)] ∧ (i ≤ tvs.length) ∧ (∀ s t, s < i → t < (L.getD (2 + s) []).length → okAt L (2 + s) t = true)) ⟨0, rfl, rfl, rfl, by omega, fun _ _ h => absurd h (Nat.not_lt_zero _)⟩ ⟨rfl, rfl, rfl, rfl, rfl, rfl, rfl, rfl, trivial⟩ ⟨(by rw [hz0] <;> rfl), rfl, trivial⟩ ?_
      rintro kk E m ⟨i, rfl, rfl, rfl, hf1_0, hf1_1⟩
      simp only [catE, catL]
      have hwl := whoT_lt late i
      refine Qs<|Qp<|(Ql)<|Qn<|Qs ?_
      refine e_cond rfl ?_ ?_
      · intro hc3
        have hc3 : i < tvs.length := by have := of_decide_eq_true hc3; omega
        refine Qk<|Qs<|Qb<|Qs<|Qp ?_
        refine e_atV hvt (Uu 24) (Uz 22) rfl rfl (by omega) rfl ?_
        refine (QS) ?_
        refine e_loadV hvt seenG (Uu 22) rfl rfl (get_getD (by omega)) rfl ?_
        refine (Qa)<|Qn<|Qs<|Qs<|QR ⟨[], 5, [], none⟩<|(Qm)<|(Qm) ?_
        refine e_callWS 1 rfl rfl (Un 12) rfl (fun z hz => .inl hz) (turn_fn (G := G) r2 (uptoE L (2 + i) 0) (whoT late i) hwl (tvs.getD i undef) (us.getD i []) (li_at hT (by omega)) (hut i (by omega)).2 (by have := (hut i (by omega)).1; omega)) ⟨_, _, rfl, fun _ => rfl⟩ rfl rfl fun v4_1 c4_1 hS4_1 => ?_
        obtain ⟨rfl, hq2⟩ := hS4_1
        refine (Q0)<|Qn ?_
        refine e_cond rfl ?_ ?_
        · intro hc4
          have hbad : okTR (uptoE L (2 + i) 0) (whoT late i) (us.getD i []) = false := by simpa using hc4
          rw [turn_bad (by omega) (hLt i (by omega)) hbad]
          refine Qs<|Qp<|(Qa)<|Qn<|Qr ?_
          first | rw [fin3_ok (fun s t hs ht => by by_cases h2 : s < 2; exact hf0_1 s t (by omega) ht; (obtain ⟨s, rfl⟩ : ∃ r, s = 2 + r := ⟨s - 2, by omega⟩); exact hf1_1 s t (by omega) ht)] | skip
          exact ⟨_, rfl, .tmp rfl⟩
        · intro hc4
          have hok : okTR (uptoE L (2 + i) 0) (whoT late i) (us.getD i []) = true := by simpa using hc4
          obtain rfl := hq2 hok
          refine Qk<|Qp<|(Qm) ?_
          refine e_sub_in (p := 1) rfl rfl rfl (by omega) (by omega) ?_
          refine (Qa)<|Qn<|Qp<|(Q2 1)<|(Qm)<|Qn ?_
          refine QzL ⟨i + 1, rfl, rfl, rfl, by omega, fun s t hs ht => by by_cases e : s = i; (subst e; exact turn_ok (hLt s (by omega)) hok t ht); exact hf1_1 s t (by omega) ht⟩ ⟨(by rw [← whoT_next] <;> rfl), rfl, rfl, rfl, rfl, rfl, rfl, rfl, trivial⟩ ⟨(by rw [show 2 + (i + 1) = 2 + i + 1 by omega, ← row_next (by omega), hLt i (by omega)] <;> rfl), rfl, trivial⟩ ?_
          omega
      · intro hc3
        have hc3 := of_decide_eq_false hc3
        have hz1 : i = tvs.length := by omega
        refine Qe<|Qs<|Qp<|(Qa)<|Qn<|Qr ?_
        first | rw [fin3_ok (fun s t hs ht => by by_cases h2 : s < 2; exact hf0_1 s t (by omega) ht; (obtain ⟨s, rfl⟩ : ∃ r, s = 2 + r := ⟨s - 2, by omega⟩); exact hf1_1 s t (by omega) ht)] | skip
        exact ⟨_, rfl, .tmp rfl⟩
end Go.Proofs.Ytejejmhbhegneaa
namespace Go.Proofs.Ytejejmhbhegneaa
open Go Go.RowKit
variable {G : Mem}
set_option maxHeartbeats 400000 in
theorem chk_size (base : List Nat) (late : Bool) (vp v0 v1 vt : Value) (tvs : List Value) (p0 p1 : List Int) (ts : List (List Int)) (hvt : Shows G 1 vt tvs.length tvs) (hLI : ShowsLI G (v0 :: v1 :: tvs) (p0 :: p1 :: ts)) (h : ts.length = 0 ∨ 5 < ts.length) : Fn Try.prog G 4 #[.agg (cells 6 [pV (sv base), pV (.bool late), pV vp, pV v0, pV v1, pV vt])] (ii 1) := by
  have hT := li_tail (li_tail hLI)
  have htl : tvs.length = ts.length := hT.1
  refine Qf1 Try.func4 ?_
  refine Qs<|Qp<|(Qh 0) fun r1=>(Qa)<|Qn<|Qs<|Qs<|Qp ?_
  refine e_join [(0, _), (1, _), (2, _)] [(14, .bool (decide ((tvs.length : Int) < 1) || decide ((5 : Int) < (tvs.length : Int))))] [(0, some _)] ⟨rfl, rfl, rfl, trivial⟩ ⟨rfl, trivial⟩ ?_ ?_
  · skip
    refine (Qf 5)<|(QV 5 0)<|(QC hvt)<|(Ql)<|(Qm) ?_
    refine e_case (fun hb0 => ?_) (fun hb0 => ?_)
    · skip
      refine (Qo)<|(Qo)<|(Qo)<|(Qo)<|(QT)<|Qn ?_
      exact ⟨⟨rfl, rfl, rfl, trivial⟩, ⟨bool_fin (by rw [hb0] <;> rfl), trivial⟩, ⟨rfl, trivial⟩⟩
    · skip
      refine (Qy)<|(Qf 5)<|(Qy)<|(QV 5 0)<|(Qy)<|(QC hvt)<|(Qy)<|(QG)<|(QF)<|Qn ?_
      exact ⟨⟨rfl, rfl, rfl, trivial⟩, ⟨bool_fin (by rw [hb0] <;> rfl), trivial⟩, ⟨rfl, trivial⟩⟩
  · simp only [catE]
    refine e_cond rfl ?_ ?_
    · intro hc0
      refine Qs<|Qp<|(Qa)<|Qn<|Qr ?_
      exact ⟨_, rfl, .tmp rfl⟩
    · intro hc0
      exact absurd hc0 (by rcases h with h | h; (rw [decide_eq_true (by omega)]; simp); (rw [decide_eq_true (p := (5 : Int) < _) (by omega)]; simp))
set_option maxHeartbeats 2000000 in
theorem chk_pre (base : List Nat) (late : Bool) (vp v0 v1 vt : Value) (tvs : List Value) (p0 p1 : List Int) (ts : List (List Int)) (hvt : Shows G 1 vt tvs.length tvs) (hLI : ShowsLI G (v0 :: v1 :: tvs) (p0 :: p1 :: ts)) (h1 : 1 ≤ ts.length) (h5 : ts.length ≤ 5) (f : Nat) (hf : first1 [p0, p1] = f) (hf0 : f ≠ 0) : Fn Try.prog G 4 #[.agg (cells 6 [pV (sv base), pV (.bool late), pV vp, pV v0, pV v1, pV vt])] (ii f) := by
  have hT := li_tail (li_tail hLI)
  have htl : tvs.length = ts.length := hT.1
  refine Qf1 Try.func4 ?_
  refine Qs<|Qp<|(Qh 0) fun r1=>(Qa)<|Qn<|Qs<|Qs<|Qp ?_
  refine e_join [(0, _), (1, _), (2, _)] [(14, .bool (decide ((tvs.length : Int) < 1) || decide ((5 : Int) < (tvs.length : Int))))] [(0, some _)] ⟨rfl, rfl, rfl, trivial⟩ ⟨rfl, trivial⟩ ?_ ?_
  · skip
    refine (Qf 5)<|(QV 5 0)<|(QC hvt)<|(Ql)<|(Qm) ?_
    refine e_case (fun hb0 => ?_) (fun hb0 => ?_)
    · skip
      refine (Qo)<|(Qo)<|(Qo)<|(Qo)<|(QT)<|Qn ?_
      exact ⟨⟨rfl, rfl, rfl, trivial⟩, ⟨bool_fin (by rw [hb0] <;> rfl), trivial⟩, ⟨rfl, trivial⟩⟩
    · skip
      refine (Qy)<|(Qf 5)<|(Qy)<|(QV 5 0)<|(Qy)<|(QC hvt)<|(Qy)<|(QG)<|(QF)<|Qn ?_
      exact ⟨⟨rfl, rfl, rfl, trivial⟩, ⟨bool_fin (by rw [hb0] <;> rfl), trivial⟩, ⟨rfl, trivial⟩⟩
  · simp only [catE]
    refine e_cond rfl ?_ ?_
    · intro hc0
      exact absurd hc0 (by rw [decide_eq_false (by omega), decide_eq_false (by omega)]; decide)
    · intro hc0
      refine Qk<|Qs<|Qs<|Qp<|(Qf 3) ?_
      refine e_sliceA 0 2 (Uu 23) (Uz 22) rfl rfl rfl rfl rfl (by omega) (by omega) (by omega) rfl ?_
      refine e_callS rfl rfl (Un 6) (seen_app (seen1 0 rfl ⟨[], trivial⟩) seenG) (chkl_fn (G := [(⟨r1, (cells 6 [pV (sv base), pV (.bool late), pV vp, pV v0, pV v1, pV vt]), 26⟩ : Blk)] ++ G) _ [v0, v1] [p0, p1] ((pre_two (r := r1) (t := 26)).mono (fun x hx => List.mem_append_left _ hx)) (li_mono (li_two hLI) (fun x hx => List.mem_append_right _ hx)) (by simp)) rfl rfl ?_
      refine e_as (congrArg ii hf) ?_
      refine (Qa)<|Qn<|Qs<|Qp<|(Qm)<|(QN)<|(Qat)<|Qn<|(Qct)<|Qs<|Qp<|(Qm)<|(Qa)<|Qn<|Qr ?_
      exact ⟨_, rfl, .tmp rfl⟩
set_option maxHeartbeats 2000000 in
theorem chk_turns (base : List Nat) (late : Bool) (vp v0 v1 vt : Value) (tvs : List Value) (p0 p1 : List Int) (ts : List (List Int)) (hvt : Shows G 1 vt tvs.length tvs) (hLI : ShowsLI G (v0 :: v1 :: tvs) (p0 :: p1 :: ts)) (h1 : 1 ≤ ts.length) (h5 : ts.length ≤ 5) (hp : first1 [p0, p1] = 0) (f : Nat) (hf : first1 ts = f) (hf0 : f ≠ 0) : Fn Try.prog G 4 #[.agg (cells 6 [pV (sv base), pV (.bool late), pV vp, pV v0, pV v1, pV vt])] (ii f) := by
  have hT := li_tail (li_tail hLI)
  have htl : tvs.length = ts.length := hT.1
  refine Qf1 Try.func4 ?_
  refine Qs<|Qp<|(Qh 0) fun r1=>(Qa)<|Qn<|Qs<|Qs<|Qp ?_
  refine e_join [(0, _), (1, _), (2, _)] [(14, .bool (decide ((tvs.length : Int) < 1) || decide ((5 : Int) < (tvs.length : Int))))] [(0, some _)] ⟨rfl, rfl, rfl, trivial⟩ ⟨rfl, trivial⟩ ?_ ?_
  · skip
    refine (Qf 5)<|(QV 5 0)<|(QC hvt)<|(Ql)<|(Qm) ?_
    refine e_case (fun hb0 => ?_) (fun hb0 => ?_)
    · skip
      refine (Qo)<|(Qo)<|(Qo)<|(Qo)<|(QT)<|Qn ?_
      exact ⟨⟨rfl, rfl, rfl, trivial⟩, ⟨bool_fin (by rw [hb0] <;> rfl), trivial⟩, ⟨rfl, trivial⟩⟩
    · skip
      refine (Qy)<|(Qf 5)<|(Qy)<|(QV 5 0)<|(Qy)<|(QC hvt)<|(Qy)<|(QG)<|(QF)<|Qn ?_
      exact ⟨⟨rfl, rfl, rfl, trivial⟩, ⟨bool_fin (by rw [hb0] <;> rfl), trivial⟩, ⟨rfl, trivial⟩⟩
  · simp only [catE]
    refine e_cond rfl ?_ ?_
    · intro hc0
      exact absurd hc0 (by rw [decide_eq_false (by omega), decide_eq_false (by omega)]; decide)
    · intro hc0
      refine Qk<|Qs<|Qs<|Qp<|(Qf 3) ?_
      refine e_sliceA 0 2 (Uu 23) (Uz 22) rfl rfl rfl rfl rfl (by omega) (by omega) (by omega) rfl ?_
      refine e_callS rfl rfl (Un 6) (seen_app (seen1 0 rfl ⟨[], trivial⟩) seenG) (chkl_fn (G := [(⟨r1, (cells 6 [pV (sv base), pV (.bool late), pV vp, pV v0, pV v1, pV vt]), 26⟩ : Blk)] ++ G) _ [v0, v1] [p0, p1] ((pre_two (r := r1) (t := 26)).mono (fun x hx => List.mem_append_left _ hx)) (li_mono (li_two hLI) (fun x hx => List.mem_append_right _ hx)) (by simp)) rfl rfl ?_
      refine e_as (congrArg ii hp) ?_
      refine (Qa)<|Qn<|Qs<|Qp<|(Qm)<|(QN) ?_
      refine e_as (congrArg Value.bool (decide_eq_false (by decide))) ?_
      refine Qn<|(Qcf)<|Qk<|Qs<|Qs<|Qp<|(Qf 5)<|(QV 5 0) ?_
      refine e_call rfl (Un 6) (chkl_fn vt tvs ts hvt hT (by omega)) rfl rfl ?_
      refine e_as (congrArg ii hf) ?_
      refine (Qa)<|Qn<|Qs<|Qp<|(Qm)<|(QN)<|(Qat)<|Qn<|(Qct)<|Qs<|Qp<|(Qm)<|(Qa)<|Qn<|Qr ?_
      exact ⟨_, rfl, .tmp rfl⟩
set_option maxHeartbeats 2000000 in
theorem chk_form (base : List Nat) (late : Bool) (vp v0 v1 vt : Value) (tvs : List Value) (p0 p1 : List Int) (ts : List (List Int)) (hvt : Shows G 1 vt tvs.length tvs) (hLI : ShowsLI G (v0 :: v1 :: tvs) (p0 :: p1 :: ts)) (h1 : 1 ≤ ts.length) (h5 : ts.length ≤ 5) (hp : first1 [p0, p1] = 0) (hf : first1 ts = 0) (f : Nat) (hf3 : f = 0 ∨ f = 3) (hF : Fn Try.prog G 7 #[.agg (cells 6 [pV (sv base), pV (.bool late), pV vp, pV v0, pV v1, pV vt])] (.bool (decide (f = 0)))) : Fn Try.prog G 4 #[.agg (cells 6 [pV (sv base), pV (.bool late), pV vp, pV v0, pV v1, pV vt])] (ii f) := by
  have hT := li_tail (li_tail hLI)
  have htl : tvs.length = ts.length := hT.1
  refine Qf1 Try.func4 ?_
  refine Qs<|Qp<|(Qh 0) fun r1=>(Qa)<|Qn<|Qs<|Qs<|Qp ?_
  refine e_join [(0, _), (1, _), (2, _)] [(14, .bool (decide ((tvs.length : Int) < 1) || decide ((5 : Int) < (tvs.length : Int))))] [(0, some _)] ⟨rfl, rfl, rfl, trivial⟩ ⟨rfl, trivial⟩ ?_ ?_
  · skip
    refine (Qf 5)<|(QV 5 0)<|(QC hvt)<|(Ql)<|(Qm) ?_
    refine e_case (fun hb0 => ?_) (fun hb0 => ?_)
    · skip
      refine (Qo)<|(Qo)<|(Qo)<|(Qo)<|(QT)<|Qn ?_
      exact ⟨⟨rfl, rfl, rfl, trivial⟩, ⟨bool_fin (by rw [hb0] <;> rfl), trivial⟩, ⟨rfl, trivial⟩⟩
    · skip
      refine (Qy)<|(Qf 5)<|(Qy)<|(QV 5 0)<|(Qy)<|(QC hvt)<|(Qy)<|(QG)<|(QF)<|Qn ?_
      exact ⟨⟨rfl, rfl, rfl, trivial⟩, ⟨bool_fin (by rw [hb0] <;> rfl), trivial⟩, ⟨rfl, trivial⟩⟩
  · simp only [catE]
    refine e_cond rfl ?_ ?_
    · intro hc0
      exact absurd hc0 (by rw [decide_eq_false (by omega), decide_eq_false (by omega)]; decide)
    · intro hc0
      refine Qk<|Qs<|Qs<|Qp<|(Qf 3) ?_
      refine e_sliceA 0 2 (Uu 23) (Uz 22) rfl rfl rfl rfl rfl (by omega) (by omega) (by omega) rfl ?_
      refine e_callS rfl rfl (Un 6) (seen_app (seen1 0 rfl ⟨[], trivial⟩) seenG) (chkl_fn (G := [(⟨r1, (cells 6 [pV (sv base), pV (.bool late), pV vp, pV v0, pV v1, pV vt]), 26⟩ : Blk)] ++ G) _ [v0, v1] [p0, p1] ((pre_two (r := r1) (t := 26)).mono (fun x hx => List.mem_append_left _ hx)) (li_mono (li_two hLI) (fun x hx => List.mem_append_right _ hx)) (by simp)) rfl rfl ?_
      refine e_as (congrArg ii hp) ?_
      refine (Qa)<|Qn<|Qs<|Qp<|(Qm)<|(QN) ?_
      refine e_as (congrArg Value.bool (decide_eq_false (by decide))) ?_
      refine Qn<|(Qcf)<|Qk<|Qs<|Qs<|Qp<|(Qf 5)<|(QV 5 0) ?_
      refine e_call rfl (Un 6) (chkl_fn vt tvs ts hvt hT (by omega)) rfl rfl ?_
      refine e_as (congrArg ii hf) ?_
      refine (Qa)<|Qn<|Qs<|Qp<|(Qm)<|(QN) ?_
      refine e_as (congrArg Value.bool (decide_eq_false (by decide))) ?_
      refine Qn<|(Qcf)<|Qk<|Qs<|Qs<|Qp<|(QD 0) ?_
      refine e_call rfl (Un 7) hF rfl rfl ?_
      refine (Q0)<|Qn ?_
      refine e_cond rfl ?_ ?_
      · intro hc3
        obtain rfl : f = 3 := by have : ¬ f = 0 := (by simpa using hc3); omega
        refine Qs<|Qp<|(Qa)<|Qn<|Qr ?_
        exact ⟨_, rfl, .tmp rfl⟩
      · intro hc3
        obtain rfl : f = 0 := by simpa using hc3
        refine Qk<|Qs<|Qp<|(Qa)<|Qn<|Qr ?_
        exact ⟨_, rfl, .tmp rfl⟩
end Go.Proofs.Ytejejmhbhegneaa
namespace Go.Proofs.Ytejejmhbhegneaa
open Go Go.RowKit
theorem chk_all {G : Mem} (base : List Nat) (late : Bool) (vp v0 v1 vt : Value) (tvs : List Value) (p0 p1 : List Int) (ts : List (List Int)) (hvt : Shows G 1 vt tvs.length tvs) (hLI : ShowsLI G (v0 :: v1 :: tvs) (p0 :: p1 :: ts)) : Fn Try.prog G 4 #[.agg (cells 6 [pV (sv base), pV (.bool late), pV vp, pV v0, pV v1, pV vt])] (ii (pfault late p0 p1 ts)) := by
  by_cases h0 : ts.length = 0 ∨ 5 < ts.length
  · rw [pfault, if_pos h0]; exact chk_size base late vp v0 v1 vt tvs p0 p1 ts hvt hLI h0
  by_cases hp : first1 [p0, p1] = 0
  · by_cases hf : first1 ts = 0
    · have h00 : first1 (p0 :: p1 :: ts) = 0 := by rw [first1_split, if_pos hp, hf]
      have hz := first1_zero h00
      have e0 := wrong_no (hz p0 (by simp)).2
      have e1 := wrong_no (hz p1 (by simp)).2
      have et : ts = (ts.map fun t => t.map Int.toNat).map ci := by
        rw [List.map_map]
        conv => lhs; rw [← List.map_id ts]
        exact List.map_congr_left fun t ht => wrong_no (hz t (by simp [ht])).2
      rw [pfault, if_neg h0, if_pos h00]
      refine chk_form base late vp v0 v1 vt tvs p0 p1 ts hvt hLI (by omega) (by omega) hp hf _ (by unfold fin3; split <;> simp) ?_
      have hall : first1 ((p0.map Int.toNat :: p1.map Int.toNat :: (ts.map fun t => t.map Int.toNat)).map ci) = 0 := by
        rw [List.map_cons, List.map_cons, ← e0, ← e1, ← et]; exact h00
      exact inform_fn base late vp v0 v1 vt tvs (p0.map Int.toNat) (p1.map Int.toNat) (ts.map fun t => t.map Int.toNat) hvt (by rw [← e0, ← e1, ← et]; exact hLI) (first1_toks hall) (by rw [List.length_map]; omega)
    · rw [pfault, if_neg h0, first1_split, if_pos hp, if_neg hf]
      exact chk_turns base late vp v0 v1 vt tvs p0 p1 ts hvt hLI (by omega) (by omega) hp _ rfl hf
  · rw [pfault, if_neg h0, first1_split, if_neg hp, if_neg hp]
    exact chk_pre base late vp v0 v1 vt tvs p0 p1 ts hvt hLI (by omega) (by omega) _ rfl hp
variable {G : Mem}
end Go.Proofs.Ytejejmhbhegneaa
