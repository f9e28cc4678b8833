import Derived.Test.YtfldnikepdbgkaaKt4
namespace Go.Proofs.Ytfldnikepdbgkaa
open Go Go.RowKit
variable {G : Mem}
set_option maxHeartbeats 8000000 in
theorem fault_main (base : List Nat) (late : Bool) (vp v0 v1 vt : Value) (tvs : List Value) (q0 q1 : List Nat) (us : List (List Nat)) (hvt : Shows G 1 vt tvs.length tvs) (hLI : ShowsLI G (v0 :: v1 :: tvs) (ci q0 :: ci q1 :: us.map ci)) (hn1 : 1 ≤ tvs.length) (hn5 : tvs.length ≤ 5) (hf : first1 (ci q0 :: ci q1 :: us.map ci) = 0) (h06 : q0.length ≤ 6) (h16 : q1.length ≤ 6) (hu6 : ∀ u ∈ us, u.length ≤ 6) : Fn Try.prog G 12 #[.agg (cells 6 [pV (sv base), pV (.bool late), pV vp, pV v0, pV v1, pV vt])] (ii (fin3 (evL late q0 q1 us))) := by
  have hT := li_tail (li_tail hLI)
  have hv0 := li_head hLI
  have hv1 := li_head (li_tail hLI)
  have hvq := pre_shows hv0 hv1
  have htl : tvs.length = us.length := by have := hT.1; rwa [List.length_map] at this
  have hr7 := evL_rows (late := late) h06 h16 hu6
  obtain ⟨L, hL⟩ : ∃ L, L = evL late q0 q1 us := ⟨_, rfl⟩
  have hLl : L.length = 2 + us.length := by rw [hL]; exact evL_len
  have hLa : ∀ a, a < 2 → L.getD a [] = (qq q0 q1 a).map (fun x => (a, x)) := fun a ha => by rw [hL]; exact evL_pre ha
  have hLt : ∀ i, i < us.length → L.getD (2 + i) [] = (us.getD i [] ++ [0]).map (fun x => (whoT late i, x)) := fun i hi => by rw [hL]; exact evL_turn hi
  rw [← hL] at hr7 ⊢
  have hle := uptoE_le hr7
  have hq6 : ∀ a, (qq q0 q1 a).length ≤ 6 := fun a => by unfold qq; split <;> assumption
  have hug : ∀ i, i < us.length → (us.getD i []).length ≤ 6 := fun i hi => hu6 _ (by rw [List.getD_eq_getElem?_getD, List.getElem?_eq_getElem hi]; exact List.getElem_mem hi)
  refine Qf1 Try.func12 ?_
  refine Qs<|Qp<|(Qh 0) fun r1=>(Qa)<|Qn<|Qs<|Qs<|Qp<|(Qf 5)<|(QV 5 0)<|(QC hvt)<|(Qc)<|(Qaf)<|(Qm)<|(Qy)<|(Qf 5)<|(Qy)<|(QV 5 0)<|(Qy)<|(QC hvt)<|(Qy)<|(QG)<|(Qaf)<|(QF)<|Qn<|(Qcf)<|Qk<|Qs<|Qp<|(Qa)<|Qn<|Qs<|Qs<|Qp<|(Qf 3)<|(QA 3 0)<|(QV 3 0)<|(Qf 3)<|(QA 4 1)<|(QV 4 0) ?_
  refine e_buildSl 1 #[v0, v1] (Uu 24 rfl) (Uz 22 rfl) (Ub 22 rfl) (by decide) (by decide) rfl (fill_ones [v0, v1] 0 _ (by intro v hv; simp only [List.mem_cons, List.not_mem_nil, or_false] at hv; rcases hv with rfl | rfl; exact shows_one hv0; exact shows_one hv1) (by simp)) rfl fun r2 => ?_
  refine (Qf 5)<|(QV 5 0) ?_
  refine e_append 1 own_two hvt rfl seenG (Uu 24) (Uz 22) (Uy 22) (Ub 22) (by rfl) rfl rfl (li_one hT) (by simp only [maxLen]; omega) (by omega) rfl fun v2_1 oz2_1 ho2_1 => ?_
  refine e_callS rfl rfl (Un 31) (seen_app (seenM 1 rfl ⟨[], trivial⟩) seenG) (firstOf_fn (G := oz2_1.toList ++ G) _ (v0 :: v1 :: tvs) (ci q0 :: ci q1 :: us.map ci) (Shows.mono (OwnS.shows (own_fix ho2_1 (show _ = (v0 :: v1 :: tvs).length by simp; omega) rfl)) (fun x h => List.mem_append_left _ h)) (li_mono hLI (fun x h => List.mem_append_right _ h)) (by simp; omega)) rfl rfl ?_
  refine e_as (congrArg ii hf) ?_
  refine (Qa)<|Qn<|Qs<|Qp<|(Qm)<|(QN) ?_
  refine e_as (congrArg Value.bool (decide_eq_false (by decide))) ?_
  refine Qn<|(Qcf)<|Qk<|Qs<|Qs<|Qp<|(Qm)<|Qn<|Qb ?_
  refine QzK [(1, _)] [(0, _), (1, oz2_1)] (fun kk E m => ∃ (a : Nat) (w : Value) (oz : Option Blk), kk = 2 - a ∧ E = [(3, w), (39, ii a)] ∧ m = [(50, oz)] ∧ (a ≤ 2) ∧ (OwnS 55 2 w (uptoE L a 0).length ((uptoE L a 0).flatMap evC) (Option.toList oz)) ∧ (∀ s t, s < a → t < (L.getD s []).length → okAt L s t = true)) ⟨0, nilS, none, rfl, rfl, rfl, by omega, (own_fix (own_nil _ _) (by rw [uptoE_zero]; rfl) (by rw [uptoE_zero]; rfl)), fun _ _ h => absurd h (Nat.not_lt_zero _)⟩ ⟨rfl, rfl, rfl, trivial⟩ ⟨rfl, rfl, rfl, trivial⟩ ?_
  rintro kk E m ⟨a, w, oz, rfl, rfl, rfl, hf0_0, hf0_1, hf0_2⟩
  simp only [catE, catL]
  refine Qs<|Qp<|(Ql)<|Qn<|Qs ?_
  refine e_cond rfl ?_ ?_
  · intro hc2
    have hc2 : a < 2 := by have := of_decide_eq_true hc2; omega
    refine Qk<|Qs<|Qb<|Qs<|Qp<|(Qm)<|(Qa)<|Qn<|Qs<|Qp<|(Qm)<|(Qf 3)<|(QB (3 + a)) ?_
    refine e_load1 (i := 0) (Uu 22) rfl rfl rfl (pre_cell (by omega)) rfl ⟨[], trivial⟩ ?_
    refine (QC (hvq a (by omega)))<|(Qm)<|Qn<|Qb ?_
    refine QzK [(1, _), (5, _), (39, _), (45, _), (46, _)] [(0, _), (1, oz2_1)] (fun kk E m => ∃ (j : Nat) (w2 : Value) (oy : Option Blk), kk = (qq q0 q1 a).length - j ∧ E = [(3, w2), (47, ii j)] ∧ m = [(50, oy)] ∧ (j ≤ (qq q0 q1 a).length) ∧ (OwnS 55 2 w2 (uptoE L a j).length ((uptoE L a j).flatMap evC) (Option.toList oy)) ∧ (∀ t, t < j → okAt L a t = true)) ⟨0, w, oz, rfl, rfl, rfl, by omega, hf0_1, fun _ h => absurd h (Nat.not_lt_zero _)⟩ ⟨rfl, rfl, rfl, rfl, rfl, rfl, rfl, trivial⟩ ⟨rfl, rfl, rfl, trivial⟩ ?_
    rintro kk E m ⟨j, w2, oy, rfl, rfl, rfl, hf1_0, hf1_1, hf1_2⟩
    simp only [catE, catL]
    have hqa := hq6 a
    have hlen : (uptoE L a j).length ≤ 1000000 := by have := hle a j; omega
    have hrow : uptoE L a (qq q0 q1 a).length = uptoE L (a + 1) 0 := by rw [← uptoE_row (by omega), hLa a (by omega), List.length_map]
    refine Qs<|Qp<|(Ql)<|Qn<|Qs ?_
    refine e_cond rfl ?_ ?_
    · intro hc3
      have hc3 : j < (qq q0 q1 a).length := by have := of_decide_eq_true hc3; omega
      refine Qk<|Qs<|Qb<|Qs<|Qp ?_
      refine e_atV (hvq a (by omega)) (Uu 22) (Uz 3) rfl rfl (by omega) rfl ?_
      refine (QS) ?_
      refine e_loadV (hvq a (by omega)) seenG (Uu 3) rfl rfl (ci_at (by omega)) rfl ?_
      refine e_gen_i fun x hx => ?_
      refine (Qa)<|Qn ?_
      have he : (L.getD a []).getD j (0, 0) = (a, x) := by rw [hLa a (by omega), map_at (by omega), hx]
      have hjl : j < (L.getD a []).length := by rw [hLa a (by omega), List.length_map]; omega
      have hok := okAt_pre (by omega) he
      refine Qs<|Qs<|Qp ?_
      refine e_join [(1, _), (3, _), (5, _), (7, _), (39, _), (45, _), (46, _), (47, _), (48, _), (49, _), (50, _)] [(58, .bool (decide (2 < (x : Int)) || hap (uptoE L a j) a x))] [(0, some _), (1, oz2_1), (50, oy)] ⟨rfl, rfl, rfl, rfl, rfl, rfl, rfl, rfl, rfl, rfl, rfl, trivial⟩ ⟨rfl, rfl, rfl, trivial⟩ ?_ ?_
      · skip
        refine (Qm)<|(QG)<|(Qm) ?_
        refine e_case (b := decide (2 < (x : Int))) (fun hb0 => ?_) (fun hb0 => ?_)
        · skip
          refine (Qo)<|(Qo)<|(Qo)<|(Qo)<|(QT)<|Qn ?_
          exact ⟨⟨rfl, rfl, rfl, rfl, rfl, rfl, rfl, rfl, rfl, rfl, rfl, trivial⟩, ⟨bool_fin (by rw [hb0] <;> rfl), trivial⟩, ⟨rfl, rfl, rfl, trivial⟩⟩
        · skip
          refine (Qy)<|(Qm)<|(Qy)<|(Qm)<|(Qy)<|(Qm)<|(Qy) ?_
          refine e_callS rfl rfl (Un 32) (seenM 50 rfl ⟨[], trivial⟩) (happened_fn (G := Option.toList oy) w2 (uptoE L a j) a x hf1_1.shows hlen) rfl rfl ?_
          refine (QF)<|Qn ?_
          exact ⟨⟨rfl, rfl, rfl, rfl, rfl, rfl, rfl, rfl, rfl, rfl, rfl, trivial⟩, ⟨bool_fin (by rw [hb0] <;> rfl), trivial⟩, ⟨rfl, rfl, rfl, trivial⟩⟩
      · simp only [catE]
        refine e_cond rfl ?_ ?_
        · intro hc4
          rw [fin3_bad (i := a) (j := j) (by omega) hjl (by rw [hok, hc4]; rfl)]
          refine Qs<|Qp<|(Qa)<|Qn<|Qr ?_
          first | rw [fin3_ok (fun s t hs ht => by by_cases h2 : s < 2; exact hf0_2 s t h2 ht; (obtain ⟨s, rfl⟩ : ∃ r, s = 2 + r := ⟨s - 2, by omega⟩); exact hf2_2 s t (by omega) (by rw [hLt s (by omega), List.length_map, List.length_append] at ht; simpa using ht))] | skip
          exact ⟨_, rfl, .tmp rfl⟩
        · intro hc4
          have hcf : okAt L a j = true := by rw [hok, hc4]; rfl
          refine Qk<|Qp<|(Qm)<|(Qm)<|(Qm) ?_
          refine e_buildS (arr .i64 2 (ev2 (a, x))) (Ub 55 rfl) (Uu 55 rfl) pls55 rfl (by kernel_rfl) rfl ?_
          refine e_buildSl 2 (arr .i64 2 (ev2 (a, x))) (Uu 52 rfl) (Uz 55 rfl) (Ub 55 rfl) (by decide) (by decide) rfl (by kernel_rfl) rfl fun r3 => ?_
          refine e_append 50 hf1_1 (ev_shows _ _ (a, x)) rfl (seen1 2 rfl ⟨[], trivial⟩) (Uu 52) (Uz 55) (Uy 55) (Ub 55) (by rfl) rfl rfl (ev_one _) (by simp only [maxLen]; omega) (by omega) rfl fun v7_2 oz7_2 ho7_2 => ?_
          refine (Qa)<|Qn<|Qp<|(Q2 1)<|(Qm)<|Qn ?_
          refine QzL ⟨j + 1, _, _, rfl, rfl, rfl, by omega, (own_fix ho7_2 (by rw [uptoE_next hjl, List.length_append, he]; rfl) (by rw [uptoE_next hjl, ← ev_push, he])), fun t ht => by by_cases e : t = j; (subst e; exact hcf); exact hf1_2 t (by omega)⟩ ⟨rfl, rfl, rfl, rfl, rfl, rfl, rfl, trivial⟩ ⟨rfl, rfl, rfl, trivial⟩ ?_
          omega
    · intro hc3
      have hc3 := of_decide_eq_false hc3
      have hz1 : j = (qq q0 q1 a).length := by omega
      refine Qe<|Qp<|(Q2 1)<|(Qm)<|Qn ?_
      refine QzL ⟨a + 1, _, _, rfl, rfl, rfl, by omega, (own_fix hf1_1 (by rw [hz1, hrow]) (by rw [hz1, hrow])), fun s t hs ht => by by_cases e : s = a; (subst e; rw [hLa s (by omega), List.length_map] at ht; exact hf1_2 t (by omega)); exact hf0_2 s t (by omega) ht⟩ ⟨rfl, rfl, rfl, trivial⟩ ⟨rfl, rfl, rfl, trivial⟩ ?_
      omega
  · intro hc2
    have hc2 := of_decide_eq_false hc2
    have hz0 : a = 2 := by omega
    subst hz0
    refine Qe<|Qs<|Qs<|Qp<|(Qf 5)<|(QV 5 0)<|(QC hvt)<|(Qm)<|Qn<|Qb ?_
    refine QzK [(1, _), (39, _), (68, _), (69, _)] [(0, _), (1, oz2_1)] (fun kk E m => ∃ (i : Nat) (w3 : Value) (ox : Option Blk), kk = tvs.length - i ∧ E = [(3, w3), (70, ii i)] ∧ m = [(50, ox)] ∧ (i ≤ tvs.length) ∧ (OwnS 55 2 w3 (uptoE L (2 + i) 0).length ((uptoE L (2 + i) 0).flatMap evC) (Option.toList ox)) ∧ (∀ s t, s < i → t < (us.getD s []).length + 1 → okAt L (2 + s) t = true)) ⟨0, w, oz, rfl, rfl, rfl, by omega, hf0_1, fun _ _ h => absurd h (Nat.not_lt_zero _)⟩ ⟨rfl, rfl, rfl, rfl, rfl, rfl, trivial⟩ ⟨rfl, rfl, rfl, trivial⟩ ?_
    rintro kk E m ⟨i, w3, ox, rfl, rfl, rfl, hf2_0, hf2_1, hf2_2⟩
    simp only [catE, catL]
    refine Qs<|Qp<|(Ql)<|Qn<|Qs ?_
    refine e_cond rfl ?_ ?_
    · intro hc5
      have hc5 : i < tvs.length := by have := of_decide_eq_true hc5; omega
      refine Qk<|Qs<|Qb<|Qs<|Qp<|(Qm) ?_
      refine e_atV hvt (Uu 24) (Uz 22) rfl rfl (by omega) rfl ?_
      refine (QS) ?_
      refine e_loadV hvt seenG (Uu 22) rfl rfl (get_getD (by omega)) rfl ?_
      refine (Qa)<|(Qa)<|Qn<|Qs<|Qp<|(Qm)<|(Q4 2)<|(Qa)<|Qn<|Qs<|Qs<|Qp<|(Qf 1)<|(QV 1 0)<|Qn ?_
      refine s_join [(1, _), (3, _), (8, _), (9, _), (39, _), (68, _), (69, _), (70, _), (71, _), (72, _), (73, _), (74, _), (75, _), (76, _), (77, _), (78, _)] [(10, ii (whoT late i))] [(0, some _), (1, oz2_1), (50, ox)] ⟨rfl, rfl, rfl, rfl, rfl, rfl, rfl, rfl, rfl, rfl, rfl, rfl, rfl, rfl, rfl, rfl, trivial⟩ ⟨rfl, rfl, rfl, trivial⟩ ?_ ?_
      · skip
        refine e_cond rfl ?_ ?_
        · intro hc6
          have hcL := hc6
          refine Qp<|(Qm)<|(Q2 1)<|(Q4 2)<|(Qa)<|Qn ?_
          exact ⟨⟨rfl, rfl, rfl, rfl, rfl, rfl, rfl, rfl, rfl, rfl, rfl, rfl, rfl, rfl, rfl, rfl, trivial⟩, ⟨(by rw [whoT, hcL] <;> rfl), trivial⟩, ⟨rfl, rfl, rfl, trivial⟩⟩
        · intro hc6
          have hcL := hc6
          refine Qk ?_
          exact ⟨⟨rfl, rfl, rfl, rfl, rfl, rfl, rfl, rfl, rfl, rfl, rfl, rfl, rfl, rfl, rfl, rfl, trivial⟩, ⟨(by rw [whoT, hcL] <;> rfl), trivial⟩, ⟨rfl, rfl, rfl, trivial⟩⟩
      · simp only [catE]
        refine Qs<|Qp ?_
        refine e_buildSl0 2 (Uu 22 rfl) (Uz 3 rfl) rfl fun r3 => ?_
        refine (Qm) ?_
        refine e_append 2 own_none (li_at hT (by omega)) rfl seenG (Uu 22) (Uz 3) (Uy 3) (Ub 3) (by rfl) rfl rfl iv_one (by have := hug i (by omega); simp only [maxLen]; omega) (by have := hug i (by omega); omega) rfl fun v6_2 oz6_2 ho6_2 => ?_
        refine e_buildSl 3 #[ii 0] (Uu 22 rfl) (Uz 3 rfl) (Ub 3 rfl) (by decide) (by decide) rfl (by kernel_rfl) rfl fun r4 => ?_
        refine e_append 2 ho6_2 (shows_new _ _ (by rfl)) rfl (seen1 3 rfl ⟨[], trivial⟩) (Uu 22) (Uz 3) (Uy 3) (Ub 3) (by rfl) rfl rfl (by simp; rfl) (by have := hug i (by omega); simp only [maxLen]; omega) (by have := hug i (by omega); omega) rfl fun v6_3 oz6_3 ho6_3 => ?_
        refine (QC ho6_3.shows) ?_
        refine e_as (congrArg ii (show _ = (us.getD i []).length + 1 by omega)) ?_
        refine (Qm)<|Qn<|Qb ?_
        refine QzK [(1, _), (10, _), (39, _), (68, _), (69, _), (70, _), (86, _), (87, _)] [(0, _), (1, oz2_1), (2, oz6_3), (3, _)] (fun kk E m => ∃ (p : Nat) (w4 : Value) (ow : Option Blk), kk = ((us.getD i []).length + 1) - p ∧ E = [(3, w4), (88, ii p)] ∧ m = [(50, ow)] ∧ (p ≤ ((us.getD i []).length + 1)) ∧ (OwnS 55 2 w4 (uptoE L (2 + i) p).length ((uptoE L (2 + i) p).flatMap evC) (Option.toList ow)) ∧ (∀ t, t < p → okAt L (2 + i) t = true)) ⟨0, w3, ox, rfl, rfl, rfl, by omega, hf2_1, fun _ h => absurd h (Nat.not_lt_zero _)⟩ ⟨rfl, rfl, rfl, rfl, rfl, rfl, rfl, rfl, rfl, rfl, trivial⟩ ⟨rfl, rfl, rfl, rfl, rfl, trivial⟩ ?_
        rintro kk E m ⟨p, w4, ow, rfl, rfl, rfl, hf3_0, hf3_1, hf3_2⟩
        simp only [catE, catL]
        have hui := hug i (by omega)
        have hlen : (uptoE L (2 + i) p).length ≤ 1000000 := by have := hle (2 + i) p; omega
        have hrow3 : uptoE L (2 + i) ((us.getD i []).length + 1) = uptoE L (2 + (i + 1)) 0 := by rw [show 2 + (i + 1) = 2 + i + 1 by omega, ← uptoE_row (by omega), hLt i (by omega), List.length_map, List.length_append]; rfl
        refine Qs<|Qp<|(Ql)<|Qn<|Qs ?_
        refine e_cond rfl ?_ ?_
        · intro hc7
          have hc7 : p < ((us.getD i []).length + 1) := by have := of_decide_eq_true hc7; omega
          refine Qk<|Qs<|Qb<|Qs<|Qp ?_
          refine e_atV ho6_3.shows (Uu 22) (Uz 3) rfl rfl (by omega) rfl ?_
          refine (QS) ?_
          refine e_loadV ho6_3.shows (seenM 2 rfl ⟨[], trivial⟩) (Uu 3) rfl rfl (tok_at (by omega)) rfl ?_
          refine e_gen_i fun y hy => ?_
          refine (Qa)<|Qn ?_
          have he : (L.getD (2 + i) []).getD p (0, 0) = (whoT late i, y) := by rw [hLt i (by omega), map_at (by rw [List.length_append]; exact hc7), hy]
          have hjl : p < (L.getD (2 + i) []).length := by rw [hLt i (by omega), List.length_map, List.length_append]; exact hc7
          have hok := okAt_turn he
          refine Qs<|Qp ?_
          refine e_join [(1, _), (3, _), (10, _), (12, _), (39, _), (68, _), (69, _), (70, _), (86, _), (87, _), (88, _), (89, _), (90, _), (91, _)] [(13, .bool (locksE (uptoE L (2 + i) p)))] [(0, some _), (1, oz2_1), (2, oz6_3), (3, some _), (50, ow)] ⟨rfl, rfl, rfl, rfl, rfl, rfl, rfl, rfl, rfl, rfl, rfl, rfl, rfl, rfl, trivial⟩ ⟨rfl, rfl, rfl, rfl, rfl, trivial⟩ ?_ ?_
          · skip
            refine (Qm) ?_
            refine e_callS rfl rfl (Un 32) (seenM 50 rfl ⟨[], trivial⟩) (happened_fn (G := Option.toList ow) w4 (uptoE L (2 + i) p) (-1) 3 hf3_1.shows hlen) rfl rfl ?_
            refine (Qm) ?_
            refine e_case (b := hap (uptoE L (2 + i) p) (-1) 3) (fun hb1 => ?_) (fun hb1 => ?_)
            · skip
              refine (Qo)<|(Qo)<|(QT)<|(Qm)<|(Qo)<|(Qo)<|(QT)<|(Qm)<|(Qo)<|(Qo)<|(QT)<|(Qm)<|(Qo)<|(Qo)<|(QT)<|(Qa)<|Qn ?_
              exact ⟨⟨rfl, rfl, rfl, rfl, rfl, rfl, rfl, rfl, rfl, rfl, rfl, rfl, rfl, rfl, trivial⟩, ⟨bool_fin (by rw [locksE, hb1] <;> rfl), trivial⟩, ⟨rfl, rfl, rfl, rfl, rfl, trivial⟩⟩
            · skip
              refine (Qy)<|(Qm)<|(Qy) ?_
              refine e_callS rfl rfl (Un 32) (seenM 50 rfl ⟨[], trivial⟩) (happened_fn (G := Option.toList ow) w4 (uptoE L (2 + i) p) (-1) 4 hf3_1.shows hlen) rfl rfl ?_
              refine (QF)<|(Qm) ?_
              refine e_case (b := hap (uptoE L (2 + i) p) (-1) 4) (fun hb2 => ?_) (fun hb2 => ?_)
              · skip
                refine (Qo)<|(Qo)<|(QT)<|(Qm)<|(Qo)<|(Qo)<|(QT)<|(Qm)<|(Qo)<|(Qo)<|(QT)<|(Qa)<|Qn ?_
                exact ⟨⟨rfl, rfl, rfl, rfl, rfl, rfl, rfl, rfl, rfl, rfl, rfl, rfl, rfl, rfl, trivial⟩, ⟨bool_fin (by rw [locksE, hb1, hb2] <;> rfl), trivial⟩, ⟨rfl, rfl, rfl, rfl, rfl, trivial⟩⟩
              · skip
                refine (Qy)<|(Qm)<|(Qy) ?_
                refine e_callS rfl rfl (Un 32) (seenM 50 rfl ⟨[], trivial⟩) (happened_fn (G := Option.toList ow) w4 (uptoE L (2 + i) p) (-1) 5 hf3_1.shows hlen) rfl rfl ?_
                refine (QF)<|(Qm) ?_
                refine e_case (b := hap (uptoE L (2 + i) p) (-1) 5) (fun hb3 => ?_) (fun hb3 => ?_)
                · skip
                  refine (Qo)<|(Qo)<|(QT)<|(Qm)<|(Qo)<|(Qo)<|(QT)<|(Qa)<|Qn ?_
                  exact ⟨⟨rfl, rfl, rfl, rfl, rfl, rfl, rfl, rfl, rfl, rfl, rfl, rfl, rfl, rfl, trivial⟩, ⟨bool_fin (by rw [locksE, hb1, hb2, hb3] <;> rfl), trivial⟩, ⟨rfl, rfl, rfl, rfl, rfl, trivial⟩⟩
                · skip
                  refine (Qy)<|(Qm)<|(Qy) ?_
                  refine e_callS rfl rfl (Un 32) (seenM 50 rfl ⟨[], trivial⟩) (happened_fn (G := Option.toList ow) w4 (uptoE L (2 + i) p) (-1) 6 hf3_1.shows hlen) rfl rfl ?_
                  refine (QF)<|(Qm) ?_
                  refine e_case (b := hap (uptoE L (2 + i) p) (-1) 6) (fun hb4 => ?_) (fun hb4 => ?_)
                  · skip
                    refine (Qo)<|(Qo)<|(QT)<|(Qa)<|Qn ?_
                    exact ⟨⟨rfl, rfl, rfl, rfl, rfl, rfl, rfl, rfl, rfl, rfl, rfl, rfl, rfl, rfl, trivial⟩, ⟨bool_fin (by rw [locksE, hb1, hb2, hb3, hb4] <;> rfl), trivial⟩, ⟨rfl, rfl, rfl, rfl, rfl, trivial⟩⟩
                  · skip
                    refine (Qy)<|(Qm)<|(Qy) ?_
                    refine e_callS rfl rfl (Un 32) (seenM 50 rfl ⟨[], trivial⟩) (happened_fn (G := Option.toList ow) w4 (uptoE L (2 + i) p) (-1) 7 hf3_1.shows hlen) rfl rfl ?_
                    refine (QF)<|(Qa)<|Qn ?_
                    exact ⟨⟨rfl, rfl, rfl, rfl, rfl, rfl, rfl, rfl, rfl, rfl, rfl, rfl, rfl, rfl, trivial⟩, ⟨bool_fin (by rw [locksE, hb1, hb2, hb3, hb4] <;> rfl), trivial⟩, ⟨rfl, rfl, rfl, rfl, rfl, trivial⟩⟩
          · simp only [catE]
            refine Qs<|Qp<|(Qa)<|Qn<|Qs<|Qs<|Qp<|(Qm)<|Qn<|Qb<|Qs<|Qp<|(Qc)<|(Qa)<|Qn ?_
            refine s_join [(1, _), (3, _), (10, _), (12, _), (13, _), (39, _), (68, _), (69, _), (70, _), (86, _), (87, _), (88, _), (89, _), (90, _), (91, _), (110, _), (111, _), (112, _)] [(14, .bool (okT (uptoE L (2 + i) p) (whoT late i) y))] [(0, some _), (1, oz2_1), (2, oz6_3), (3, some _), (50, ow)] ⟨rfl, rfl, rfl, rfl, rfl, rfl, rfl, rfl, rfl, rfl, rfl, rfl, rfl, rfl, rfl, rfl, rfl, rfl, trivial⟩ ⟨rfl, rfl, rfl, rfl, rfl, trivial⟩ ?_ ?_
            · skip
              refine e_cond rfl ?_ ?_
              · intro hc8
                have hk0 : y = 0 := by have := of_decide_eq_true hc8; omega
                refine Qp ?_
                refine e_join [(1, _), (3, _), (10, _), (12, _), (13, _), (39, _), (68, _), (69, _), (70, _), (86, _), (87, _), (88, _), (89, _), (90, _), (91, _), (110, _), (111, _), (112, _)] [(14, .bool (!(locksE (uptoE L (2 + i) p)) || mlock (uptoE L (2 + i) p) (whoT late i)))] [(0, some _), (1, oz2_1), (2, oz6_3), (3, some _), (50, ow)] ⟨rfl, rfl, rfl, rfl, rfl, rfl, rfl, rfl, rfl, rfl, rfl, rfl, rfl, rfl, rfl, rfl, rfl, rfl, trivial⟩ ⟨rfl, rfl, rfl, rfl, rfl, trivial⟩ ?_ ?_
                · skip
                  refine (Qm)<|(Q0)<|(Qm) ?_
                  refine e_case (b := !(locksE (uptoE L (2 + i) p))) (fun hb5 => ?_) (fun hb5 => ?_)
                  · skip
                    refine (Qo)<|(Qo)<|(Qo)<|(QT)<|(Qa)<|Qn ?_
                    exact ⟨⟨rfl, rfl, rfl, rfl, rfl, rfl, rfl, rfl, rfl, rfl, rfl, rfl, rfl, rfl, rfl, rfl, rfl, rfl, trivial⟩, ⟨bool_fin (by rw [hb5] <;> rfl), trivial⟩, ⟨rfl, rfl, rfl, rfl, rfl, trivial⟩⟩
                  · skip
                    refine (Qy)<|(Qm)<|(Qy)<|(Qm)<|(Qy) ?_
                    refine e_callS rfl rfl (Un 33) (seenM 50 rfl ⟨[], trivial⟩) (mayLock_fn (G := Option.toList ow) w4 (uptoE L (2 + i) p) (whoT late i) hf3_1.shows hlen) rfl rfl ?_
                    refine (QF)<|(Qa)<|Qn ?_
                    exact ⟨⟨rfl, rfl, rfl, rfl, rfl, rfl, rfl, rfl, rfl, rfl, rfl, rfl, rfl, rfl, rfl, rfl, rfl, rfl, trivial⟩, ⟨bool_fin (by rw [hb5] <;> rfl), trivial⟩, ⟨rfl, rfl, rfl, rfl, rfl, trivial⟩⟩
                · simp only [catE]
                  exact ⟨⟨rfl, rfl, rfl, rfl, rfl, rfl, rfl, rfl, rfl, rfl, rfl, rfl, rfl, rfl, rfl, rfl, rfl, rfl, trivial⟩, ⟨(bool_fin (by first | (rw [okT, if_pos hk0]) | (rw [okT, if_neg hk0, if_pos hk1]) | (rw [okT, if_neg hk0, if_neg hk1, if_pos hk2]) | (rw [okT, if_neg hk0, if_neg hk1, if_neg hk2, if_pos hk3]) | (rw [okT, if_neg hk0, if_neg hk1, if_neg hk2, if_neg hk3, if_pos hk4]) | (rw [okT, if_neg hk0, if_neg hk1, if_neg hk2, if_neg hk3, if_neg hk4, if_pos hk5]) | (rw [okT, if_neg hk0, if_neg hk1, if_neg hk2, if_neg hk3, if_neg hk4, if_neg hk5, if_pos hk6]) | (rw [okT, if_neg hk0, if_neg hk1, if_neg hk2, if_neg hk3, if_neg hk4, if_neg hk5, if_neg hk6]))), trivial⟩, ⟨rfl, rfl, rfl, rfl, rfl, trivial⟩⟩
              · intro hc8
                have hk0 : ¬ y = 0 := by have := of_decide_eq_false hc8; omega
                refine Qs<|Qp<|(Qc)<|(Qa)<|Qn ?_
                refine e_cond rfl ?_ ?_
                · intro hc9
                  have hk1 : y = 1 := by have := of_decide_eq_true hc9; omega
                  refine Qp<|(Qm)<|(Qm) ?_
                  refine e_callS rfl rfl (Un 32) (seenM 50 rfl ⟨[], trivial⟩) (happened_fn (G := Option.toList ow) w4 (uptoE L (2 + i) p) (whoT late i) 1 hf3_1.shows hlen) rfl rfl ?_
                  refine (Q0)<|(Qa)<|Qn ?_
                  exact ⟨⟨rfl, rfl, rfl, rfl, rfl, rfl, rfl, rfl, rfl, rfl, rfl, rfl, rfl, rfl, rfl, rfl, rfl, rfl, trivial⟩, ⟨(bool_fin (by first | (rw [okT, if_pos hk0]) | (rw [okT, if_neg hk0, if_pos hk1]) | (rw [okT, if_neg hk0, if_neg hk1, if_pos hk2]) | (rw [okT, if_neg hk0, if_neg hk1, if_neg hk2, if_pos hk3]) | (rw [okT, if_neg hk0, if_neg hk1, if_neg hk2, if_neg hk3, if_pos hk4]) | (rw [okT, if_neg hk0, if_neg hk1, if_neg hk2, if_neg hk3, if_neg hk4, if_pos hk5]) | (rw [okT, if_neg hk0, if_neg hk1, if_neg hk2, if_neg hk3, if_neg hk4, if_neg hk5, if_pos hk6]) | (rw [okT, if_neg hk0, if_neg hk1, if_neg hk2, if_neg hk3, if_neg hk4, if_neg hk5, if_neg hk6]))), trivial⟩, ⟨rfl, rfl, rfl, rfl, rfl, trivial⟩⟩
                · intro hc9
                  have hk1 : ¬ y = 1 := by have := of_decide_eq_false hc9; omega
                  refine Qs<|Qp<|(Qc)<|(Qa)<|Qn ?_
                  refine e_cond rfl ?_ ?_
                  · intro hc10
                    have hk2 : y = 2 := by have := of_decide_eq_true hc10; omega
                    refine Qp ?_
                    refine e_join [(1, _), (3, _), (10, _), (12, _), (13, _), (39, _), (68, _), (69, _), (70, _), (86, _), (87, _), (88, _), (89, _), (90, _), (91, _), (110, _), (111, _), (112, _), (120, _), (121, _), (126, _), (127, _)] [(14, .bool (!(hap (uptoE L (2 + i) p) (whoT late i) 2) && (!(locksE (uptoE L (2 + i) p)) || mlock (uptoE L (2 + i) p) (whoT late i))))] [(0, some _), (1, oz2_1), (2, oz6_3), (3, some _), (50, ow)] ⟨rfl, rfl, rfl, rfl, rfl, rfl, rfl, rfl, rfl, rfl, rfl, rfl, rfl, rfl, rfl, rfl, rfl, rfl, rfl, rfl, rfl, rfl, trivial⟩ ⟨rfl, rfl, rfl, rfl, rfl, trivial⟩ ?_ ?_
                    · skip
                      refine (Qm)<|(Qm) ?_
                      refine e_callS rfl rfl (Un 32) (seenM 50 rfl ⟨[], trivial⟩) (happened_fn (G := Option.toList ow) w4 (uptoE L (2 + i) p) (whoT late i) 2 hf3_1.shows hlen) rfl rfl ?_
                      refine (Q0)<|(Qm) ?_
                      refine e_case (b := !(hap (uptoE L (2 + i) p) (whoT late i) 2)) (fun hb6 => ?_) (fun hb6 => ?_)
                      · skip
                        refine (Qy)<|(Qm)<|(Qy)<|(Q0)<|(Qy)<|(Qm) ?_
                        refine e_case (b := !(locksE (uptoE L (2 + i) p))) (fun hb7 => ?_) (fun hb7 => ?_)
                        · skip
                          refine (Qo)<|(Qo)<|(Qo)<|(Qy)<|(QT)<|(QT)<|(Qa)<|Qn ?_
                          exact ⟨⟨rfl, rfl, rfl, rfl, rfl, rfl, rfl, rfl, rfl, rfl, rfl, rfl, rfl, rfl, rfl, rfl, rfl, rfl, rfl, rfl, rfl, rfl, trivial⟩, ⟨bool_fin (by rw [hb6, hb7] <;> rfl), trivial⟩, ⟨rfl, rfl, rfl, rfl, rfl, trivial⟩⟩
                        · skip
                          refine (Qy)<|(Qm)<|(Qy)<|(Qm)<|(Qy) ?_
                          refine e_callS rfl rfl (Un 33) (seenM 50 rfl ⟨[], trivial⟩) (mayLock_fn (G := Option.toList ow) w4 (uptoE L (2 + i) p) (whoT late i) hf3_1.shows hlen) rfl rfl ?_
                          refine (Qy)<|(QF)<|(QT)<|(Qa)<|Qn ?_
                          exact ⟨⟨rfl, rfl, rfl, rfl, rfl, rfl, rfl, rfl, rfl, rfl, rfl, rfl, rfl, rfl, rfl, rfl, rfl, rfl, rfl, rfl, rfl, rfl, trivial⟩, ⟨bool_fin (by rw [hb6, hb7] <;> rfl), trivial⟩, ⟨rfl, rfl, rfl, rfl, rfl, trivial⟩⟩
                      · skip
                        refine (Qo)<|(Qo)<|(Qo)<|(Qw)<|(Qw)<|(Qw)<|(Qo)<|(QF)<|(Qa)<|Qn ?_
                        exact ⟨⟨rfl, rfl, rfl, rfl, rfl, rfl, rfl, rfl, rfl, rfl, rfl, rfl, rfl, rfl, rfl, rfl, rfl, rfl, rfl, rfl, rfl, rfl, trivial⟩, ⟨bool_fin (by rw [hb6] <;> rfl), trivial⟩, ⟨rfl, rfl, rfl, rfl, rfl, trivial⟩⟩
                    · simp only [catE]
                      exact ⟨⟨rfl, rfl, rfl, rfl, rfl, rfl, rfl, rfl, rfl, rfl, rfl, rfl, rfl, rfl, rfl, rfl, rfl, rfl, trivial⟩, ⟨(bool_fin (by first | (rw [okT, if_pos hk0]) | (rw [okT, if_neg hk0, if_pos hk1]) | (rw [okT, if_neg hk0, if_neg hk1, if_pos hk2]) | (rw [okT, if_neg hk0, if_neg hk1, if_neg hk2, if_pos hk3]) | (rw [okT, if_neg hk0, if_neg hk1, if_neg hk2, if_neg hk3, if_pos hk4]) | (rw [okT, if_neg hk0, if_neg hk1, if_neg hk2, if_neg hk3, if_neg hk4, if_pos hk5]) | (rw [okT, if_neg hk0, if_neg hk1, if_neg hk2, if_neg hk3, if_neg hk4, if_neg hk5, if_pos hk6]) | (rw [okT, if_neg hk0, if_neg hk1, if_neg hk2, if_neg hk3, if_neg hk4, if_neg hk5, if_neg hk6]))), trivial⟩, ⟨rfl, rfl, rfl, rfl, rfl, trivial⟩⟩
                  · intro hc10
                    have hk2 : ¬ y = 2 := by have := of_decide_eq_false hc10; omega
                    refine Qs<|Qp<|(Qc)<|(Qa)<|Qn ?_
                    refine e_cond rfl ?_ ?_
                    · intro hc11
                      have hk3 : y = 3 := by have := of_decide_eq_true hc11; omega
                      refine Qp ?_
                      refine e_join [(1, _), (3, _), (10, _), (12, _), (13, _), (39, _), (68, _), (69, _), (70, _), (86, _), (87, _), (88, _), (89, _), (90, _), (91, _), (110, _), (111, _), (112, _), (120, _), (121, _), (126, _), (127, _), (141, _), (142, _)] [(14, .bool ((hap (uptoE L (2 + i) p) 0 1 && hap (uptoE L (2 + i) p) 1 1) && !(hap (uptoE L (2 + i) p) (-1) y)))] [(0, some _), (1, oz2_1), (2, oz6_3), (3, some _), (50, ow)] ⟨rfl, rfl, rfl, rfl, rfl, rfl, rfl, rfl, rfl, rfl, rfl, rfl, rfl, rfl, rfl, rfl, rfl, rfl, rfl, rfl, rfl, rfl, rfl, rfl, trivial⟩ ⟨rfl, rfl, rfl, rfl, rfl, trivial⟩ ?_ ?_
                      · skip
                        refine (Qm) ?_
                        refine e_callS rfl rfl (Un 32) (seenM 50 rfl ⟨[], trivial⟩) (happened_fn (G := Option.toList ow) w4 (uptoE L (2 + i) p) 0 1 hf3_1.shows hlen) rfl rfl ?_
                        refine (Qm) ?_
                        refine e_case (b := hap (uptoE L (2 + i) p) 0 1) (fun hb8 => ?_) (fun hb8 => ?_)
                        · skip
                          refine (Qy)<|(Qm)<|(Qy) ?_
                          refine e_callS rfl rfl (Un 32) (seenM 50 rfl ⟨[], trivial⟩) (happened_fn (G := Option.toList ow) w4 (uptoE L (2 + i) p) 1 1 hf3_1.shows hlen) rfl rfl ?_
                          refine (QT)<|(Qm) ?_
                          refine e_case (b := hap (uptoE L (2 + i) p) 1 1) (fun hb9 => ?_) (fun hb9 => ?_)
                          · skip
                            refine (Qy)<|(Qm)<|(Qy)<|(Qm)<|(Qy) ?_
                            refine e_callS rfl rfl (Un 32) (seenM 50 rfl ⟨[], trivial⟩) (happened_fn (G := Option.toList ow) w4 (uptoE L (2 + i) p) (-1) y hf3_1.shows hlen) rfl rfl ?_
                            refine (Qy)<|(Q0)<|(QT)<|(Qa)<|Qn ?_
                            exact ⟨⟨rfl, rfl, rfl, rfl, rfl, rfl, rfl, rfl, rfl, rfl, rfl, rfl, rfl, rfl, rfl, rfl, rfl, rfl, rfl, rfl, rfl, rfl, rfl, rfl, trivial⟩, ⟨bool_fin (by rw [hb8, hb9] <;> rfl), trivial⟩, ⟨rfl, rfl, rfl, rfl, rfl, trivial⟩⟩
                          · skip
                            refine (Qo)<|(Qo)<|(Qo)<|(Qo)<|(QF)<|(Qa)<|Qn ?_
                            exact ⟨⟨rfl, rfl, rfl, rfl, rfl, rfl, rfl, rfl, rfl, rfl, rfl, rfl, rfl, rfl, rfl, rfl, rfl, rfl, rfl, rfl, rfl, rfl, rfl, rfl, trivial⟩, ⟨bool_fin (by rw [hb8, hb9] <;> rfl), trivial⟩, ⟨rfl, rfl, rfl, rfl, rfl, trivial⟩⟩
                        · skip
                          refine (Qo)<|(Qo)<|(QF)<|(Qm)<|(Qo)<|(Qo)<|(Qo)<|(Qo)<|(QF)<|(Qa)<|Qn ?_
                          exact ⟨⟨rfl, rfl, rfl, rfl, rfl, rfl, rfl, rfl, rfl, rfl, rfl, rfl, rfl, rfl, rfl, rfl, rfl, rfl, rfl, rfl, rfl, rfl, rfl, rfl, trivial⟩, ⟨bool_fin (by rw [hb8] <;> rfl), trivial⟩, ⟨rfl, rfl, rfl, rfl, rfl, trivial⟩⟩
                      · simp only [catE]
                        exact ⟨⟨rfl, rfl, rfl, rfl, rfl, rfl, rfl, rfl, rfl, rfl, rfl, rfl, rfl, rfl, rfl, rfl, rfl, rfl, trivial⟩, ⟨(bool_fin (by first | (rw [okT, if_pos hk0]) | (rw [okT, if_neg hk0, if_pos hk1]) | (rw [okT, if_neg hk0, if_neg hk1, if_pos hk2]) | (rw [okT, if_neg hk0, if_neg hk1, if_neg hk2, if_pos hk3]) | (rw [okT, if_neg hk0, if_neg hk1, if_neg hk2, if_neg hk3, if_pos hk4]) | (rw [okT, if_neg hk0, if_neg hk1, if_neg hk2, if_neg hk3, if_neg hk4, if_pos hk5]) | (rw [okT, if_neg hk0, if_neg hk1, if_neg hk2, if_neg hk3, if_neg hk4, if_neg hk5, if_pos hk6]) | (rw [okT, if_neg hk0, if_neg hk1, if_neg hk2, if_neg hk3, if_neg hk4, if_neg hk5, if_neg hk6]))), trivial⟩, ⟨rfl, rfl, rfl, rfl, rfl, trivial⟩⟩
                    · intro hc11
                      have hk3 : ¬ y = 3 := by have := of_decide_eq_false hc11; omega
                      refine Qs<|Qp<|(Qc)<|(Qa)<|Qn ?_
                      refine e_cond rfl ?_ ?_
                      · intro hc12
                        have hk4 : y = 4 := by have := of_decide_eq_true hc12; omega
                        refine Qp ?_
                        refine e_join [(1, _), (3, _), (10, _), (12, _), (13, _), (39, _), (68, _), (69, _), (70, _), (86, _), (87, _), (88, _), (89, _), (90, _), (91, _), (110, _), (111, _), (112, _), (120, _), (121, _), (126, _), (127, _), (141, _), (142, _), (155, _), (156, _)] [(14, .bool ((hap (uptoE L (2 + i) p) 0 1 && hap (uptoE L (2 + i) p) 1 2) && !(hap (uptoE L (2 + i) p) (-1) y)))] [(0, some _), (1, oz2_1), (2, oz6_3), (3, some _), (50, ow)] ⟨rfl, rfl, rfl, rfl, rfl, rfl, rfl, rfl, rfl, rfl, rfl, rfl, rfl, rfl, rfl, rfl, rfl, rfl, rfl, rfl, rfl, rfl, rfl, rfl, rfl, rfl, trivial⟩ ⟨rfl, rfl, rfl, rfl, rfl, trivial⟩ ?_ ?_
                        · skip
                          refine (Qm) ?_
                          refine e_callS rfl rfl (Un 32) (seenM 50 rfl ⟨[], trivial⟩) (happened_fn (G := Option.toList ow) w4 (uptoE L (2 + i) p) 0 1 hf3_1.shows hlen) rfl rfl ?_
                          refine (Qm) ?_
                          refine e_case (b := hap (uptoE L (2 + i) p) 0 1) (fun hb10 => ?_) (fun hb10 => ?_)
                          · skip
                            refine (Qy)<|(Qm)<|(Qy) ?_
                            refine e_callS rfl rfl (Un 32) (seenM 50 rfl ⟨[], trivial⟩) (happened_fn (G := Option.toList ow) w4 (uptoE L (2 + i) p) 1 2 hf3_1.shows hlen) rfl rfl ?_
                            refine (QT)<|(Qm) ?_
                            refine e_case (b := hap (uptoE L (2 + i) p) 1 2) (fun hb11 => ?_) (fun hb11 => ?_)
                            · skip
                              refine (Qy)<|(Qm)<|(Qy)<|(Qm)<|(Qy) ?_
                              refine e_callS rfl rfl (Un 32) (seenM 50 rfl ⟨[], trivial⟩) (happened_fn (G := Option.toList ow) w4 (uptoE L (2 + i) p) (-1) y hf3_1.shows hlen) rfl rfl ?_
                              refine (Qy)<|(Q0)<|(QT)<|(Qa)<|Qn ?_
                              exact ⟨⟨rfl, rfl, rfl, rfl, rfl, rfl, rfl, rfl, rfl, rfl, rfl, rfl, rfl, rfl, rfl, rfl, rfl, rfl, rfl, rfl, rfl, rfl, rfl, rfl, rfl, rfl, trivial⟩, ⟨bool_fin (by rw [hb10, hb11] <;> rfl), trivial⟩, ⟨rfl, rfl, rfl, rfl, rfl, trivial⟩⟩
                            · skip
                              refine (Qo)<|(Qo)<|(Qo)<|(Qo)<|(QF)<|(Qa)<|Qn ?_
                              exact ⟨⟨rfl, rfl, rfl, rfl, rfl, rfl, rfl, rfl, rfl, rfl, rfl, rfl, rfl, rfl, rfl, rfl, rfl, rfl, rfl, rfl, rfl, rfl, rfl, rfl, rfl, rfl, trivial⟩, ⟨bool_fin (by rw [hb10, hb11] <;> rfl), trivial⟩, ⟨rfl, rfl, rfl, rfl, rfl, trivial⟩⟩
                          · skip
                            refine (Qo)<|(Qo)<|(QF)<|(Qm)<|(Qo)<|(Qo)<|(Qo)<|(Qo)<|(QF)<|(Qa)<|Qn ?_
                            exact ⟨⟨rfl, rfl, rfl, rfl, rfl, rfl, rfl, rfl, rfl, rfl, rfl, rfl, rfl, rfl, rfl, rfl, rfl, rfl, rfl, rfl, rfl, rfl, rfl, rfl, rfl, rfl, trivial⟩, ⟨bool_fin (by rw [hb10] <;> rfl), trivial⟩, ⟨rfl, rfl, rfl, rfl, rfl, trivial⟩⟩
                        · simp only [catE]
                          exact ⟨⟨rfl, rfl, rfl, rfl, rfl, rfl, rfl, rfl, rfl, rfl, rfl, rfl, rfl, rfl, rfl, rfl, rfl, rfl, trivial⟩, ⟨(bool_fin (by first | (rw [okT, if_pos hk0]) | (rw [okT, if_neg hk0, if_pos hk1]) | (rw [okT, if_neg hk0, if_neg hk1, if_pos hk2]) | (rw [okT, if_neg hk0, if_neg hk1, if_neg hk2, if_pos hk3]) | (rw [okT, if_neg hk0, if_neg hk1, if_neg hk2, if_neg hk3, if_pos hk4]) | (rw [okT, if_neg hk0, if_neg hk1, if_neg hk2, if_neg hk3, if_neg hk4, if_pos hk5]) | (rw [okT, if_neg hk0, if_neg hk1, if_neg hk2, if_neg hk3, if_neg hk4, if_neg hk5, if_pos hk6]) | (rw [okT, if_neg hk0, if_neg hk1, if_neg hk2, if_neg hk3, if_neg hk4, if_neg hk5, if_neg hk6]))), trivial⟩, ⟨rfl, rfl, rfl, rfl, rfl, trivial⟩⟩
                      · intro hc12
                        have hk4 : ¬ y = 4 := by have := of_decide_eq_false hc12; omega
                        refine Qs<|Qp<|(Qc)<|(Qa)<|Qn ?_
                        refine e_cond rfl ?_ ?_
                        · intro hc13
                          have hk5 : y = 5 := by have := of_decide_eq_true hc13; omega
                          refine Qp ?_
                          refine e_join [(1, _), (3, _), (10, _), (12, _), (13, _), (39, _), (68, _), (69, _), (70, _), (86, _), (87, _), (88, _), (89, _), (90, _), (91, _), (110, _), (111, _), (112, _), (120, _), (121, _), (126, _), (127, _), (141, _), (142, _), (155, _), (156, _), (169, _), (170, _)] [(14, .bool ((hap (uptoE L (2 + i) p) 0 2 && hap (uptoE L (2 + i) p) 1 1) && !(hap (uptoE L (2 + i) p) (-1) y)))] [(0, some _), (1, oz2_1), (2, oz6_3), (3, some _), (50, ow)] ⟨rfl, rfl, rfl, rfl, rfl, rfl, rfl, rfl, rfl, rfl, rfl, rfl, rfl, rfl, rfl, rfl, rfl, rfl, rfl, rfl, rfl, rfl, rfl, rfl, rfl, rfl, rfl, rfl, trivial⟩ ⟨rfl, rfl, rfl, rfl, rfl, trivial⟩ ?_ ?_
                          · skip
                            refine (Qm) ?_
                            refine e_callS rfl rfl (Un 32) (seenM 50 rfl ⟨[], trivial⟩) (happened_fn (G := Option.toList ow) w4 (uptoE L (2 + i) p) 0 2 hf3_1.shows hlen) rfl rfl ?_
                            refine (Qm) ?_
                            refine e_case (b := hap (uptoE L (2 + i) p) 0 2) (fun hb12 => ?_) (fun hb12 => ?_)
                            · skip
                              refine (Qy)<|(Qm)<|(Qy) ?_
                              refine e_callS rfl rfl (Un 32) (seenM 50 rfl ⟨[], trivial⟩) (happened_fn (G := Option.toList ow) w4 (uptoE L (2 + i) p) 1 1 hf3_1.shows hlen) rfl rfl ?_
                              refine (QT)<|(Qm) ?_
                              refine e_case (b := hap (uptoE L (2 + i) p) 1 1) (fun hb13 => ?_) (fun hb13 => ?_)
                              · skip
                                refine (Qy)<|(Qm)<|(Qy)<|(Qm)<|(Qy) ?_
                                refine e_callS rfl rfl (Un 32) (seenM 50 rfl ⟨[], trivial⟩) (happened_fn (G := Option.toList ow) w4 (uptoE L (2 + i) p) (-1) y hf3_1.shows hlen) rfl rfl ?_
                                refine (Qy)<|(Q0)<|(QT)<|(Qa)<|Qn ?_
                                exact ⟨⟨rfl, rfl, rfl, rfl, rfl, rfl, rfl, rfl, rfl, rfl, rfl, rfl, rfl, rfl, rfl, rfl, rfl, rfl, rfl, rfl, rfl, rfl, rfl, rfl, rfl, rfl, rfl, rfl, trivial⟩, ⟨bool_fin (by rw [hb12, hb13] <;> rfl), trivial⟩, ⟨rfl, rfl, rfl, rfl, rfl, trivial⟩⟩
                              · skip
                                refine (Qo)<|(Qo)<|(Qo)<|(Qo)<|(QF)<|(Qa)<|Qn ?_
                                exact ⟨⟨rfl, rfl, rfl, rfl, rfl, rfl, rfl, rfl, rfl, rfl, rfl, rfl, rfl, rfl, rfl, rfl, rfl, rfl, rfl, rfl, rfl, rfl, rfl, rfl, rfl, rfl, rfl, rfl, trivial⟩, ⟨bool_fin (by rw [hb12, hb13] <;> rfl), trivial⟩, ⟨rfl, rfl, rfl, rfl, rfl, trivial⟩⟩
                            · skip
                              refine (Qo)<|(Qo)<|(QF)<|(Qm)<|(Qo)<|(Qo)<|(Qo)<|(Qo)<|(QF)<|(Qa)<|Qn ?_
                              exact ⟨⟨rfl, rfl, rfl, rfl, rfl, rfl, rfl, rfl, rfl, rfl, rfl, rfl, rfl, rfl, rfl, rfl, rfl, rfl, rfl, rfl, rfl, rfl, rfl, rfl, rfl, rfl, rfl, rfl, trivial⟩, ⟨bool_fin (by rw [hb12] <;> rfl), trivial⟩, ⟨rfl, rfl, rfl, rfl, rfl, trivial⟩⟩
                          · simp only [catE]
                            exact ⟨⟨rfl, rfl, rfl, rfl, rfl, rfl, rfl, rfl, rfl, rfl, rfl, rfl, rfl, rfl, rfl, rfl, rfl, rfl, trivial⟩, ⟨(bool_fin (by first | (rw [okT, if_pos hk0]) | (rw [okT, if_neg hk0, if_pos hk1]) | (rw [okT, if_neg hk0, if_neg hk1, if_pos hk2]) | (rw [okT, if_neg hk0, if_neg hk1, if_neg hk2, if_pos hk3]) | (rw [okT, if_neg hk0, if_neg hk1, if_neg hk2, if_neg hk3, if_pos hk4]) | (rw [okT, if_neg hk0, if_neg hk1, if_neg hk2, if_neg hk3, if_neg hk4, if_pos hk5]) | (rw [okT, if_neg hk0, if_neg hk1, if_neg hk2, if_neg hk3, if_neg hk4, if_neg hk5, if_pos hk6]) | (rw [okT, if_neg hk0, if_neg hk1, if_neg hk2, if_neg hk3, if_neg hk4, if_neg hk5, if_neg hk6]))), trivial⟩, ⟨rfl, rfl, rfl, rfl, rfl, trivial⟩⟩
                        · intro hc13
                          have hk5 : ¬ y = 5 := by have := of_decide_eq_false hc13; omega
                          refine Qs<|Qp<|(Qc)<|(Qa)<|Qn ?_
                          refine e_cond rfl ?_ ?_
                          · intro hc14
                            have hk6 : y = 6 := by have := of_decide_eq_true hc14; omega
                            refine Qp ?_
                            refine e_join [(1, _), (3, _), (10, _), (12, _), (13, _), (39, _), (68, _), (69, _), (70, _), (86, _), (87, _), (88, _), (89, _), (90, _), (91, _), (110, _), (111, _), (112, _), (120, _), (121, _), (126, _), (127, _), (141, _), (142, _), (155, _), (156, _), (169, _), (170, _), (183, _), (184, _)] [(14, .bool ((hap (uptoE L (2 + i) p) 0 2 && hap (uptoE L (2 + i) p) 1 2) && !(hap (uptoE L (2 + i) p) (-1) y)))] [(0, some _), (1, oz2_1), (2, oz6_3), (3, some _), (50, ow)] ⟨rfl, rfl, rfl, rfl, rfl, rfl, rfl, rfl, rfl, rfl, rfl, rfl, rfl, rfl, rfl, rfl, rfl, rfl, rfl, rfl, rfl, rfl, rfl, rfl, rfl, rfl, rfl, rfl, rfl, rfl, trivial⟩ ⟨rfl, rfl, rfl, rfl, rfl, trivial⟩ ?_ ?_
                            · skip
                              refine (Qm) ?_
                              refine e_callS rfl rfl (Un 32) (seenM 50 rfl ⟨[], trivial⟩) (happened_fn (G := Option.toList ow) w4 (uptoE L (2 + i) p) 0 2 hf3_1.shows hlen) rfl rfl ?_
                              refine (Qm) ?_
                              refine e_case (b := hap (uptoE L (2 + i) p) 0 2) (fun hb14 => ?_) (fun hb14 => ?_)
                              · skip
                                refine (Qy)<|(Qm)<|(Qy) ?_
                                refine e_callS rfl rfl (Un 32) (seenM 50 rfl ⟨[], trivial⟩) (happened_fn (G := Option.toList ow) w4 (uptoE L (2 + i) p) 1 2 hf3_1.shows hlen) rfl rfl ?_
                                refine (QT)<|(Qm) ?_
                                refine e_case (b := hap (uptoE L (2 + i) p) 1 2) (fun hb15 => ?_) (fun hb15 => ?_)
                                · skip
                                  refine (Qy)<|(Qm)<|(Qy)<|(Qm)<|(Qy) ?_
                                  refine e_callS rfl rfl (Un 32) (seenM 50 rfl ⟨[], trivial⟩) (happened_fn (G := Option.toList ow) w4 (uptoE L (2 + i) p) (-1) y hf3_1.shows hlen) rfl rfl ?_
                                  refine (Qy)<|(Q0)<|(QT)<|(Qa)<|Qn ?_
                                  exact ⟨⟨rfl, rfl, rfl, rfl, rfl, rfl, rfl, rfl, rfl, rfl, rfl, rfl, rfl, rfl, rfl, rfl, rfl, rfl, rfl, rfl, rfl, rfl, rfl, rfl, rfl, rfl, rfl, rfl, rfl, rfl, trivial⟩, ⟨bool_fin (by rw [hb14, hb15] <;> rfl), trivial⟩, ⟨rfl, rfl, rfl, rfl, rfl, trivial⟩⟩
                                · skip
                                  refine (Qo)<|(Qo)<|(Qo)<|(Qo)<|(QF)<|(Qa)<|Qn ?_
                                  exact ⟨⟨rfl, rfl, rfl, rfl, rfl, rfl, rfl, rfl, rfl, rfl, rfl, rfl, rfl, rfl, rfl, rfl, rfl, rfl, rfl, rfl, rfl, rfl, rfl, rfl, rfl, rfl, rfl, rfl, rfl, rfl, trivial⟩, ⟨bool_fin (by rw [hb14, hb15] <;> rfl), trivial⟩, ⟨rfl, rfl, rfl, rfl, rfl, trivial⟩⟩
                              · skip
                                refine (Qo)<|(Qo)<|(QF)<|(Qm)<|(Qo)<|(Qo)<|(Qo)<|(Qo)<|(QF)<|(Qa)<|Qn ?_
                                exact ⟨⟨rfl, rfl, rfl, rfl, rfl, rfl, rfl, rfl, rfl, rfl, rfl, rfl, rfl, rfl, rfl, rfl, rfl, rfl, rfl, rfl, rfl, rfl, rfl, rfl, rfl, rfl, rfl, rfl, rfl, rfl, trivial⟩, ⟨bool_fin (by rw [hb14] <;> rfl), trivial⟩, ⟨rfl, rfl, rfl, rfl, rfl, trivial⟩⟩
                            · simp only [catE]
                              exact ⟨⟨rfl, rfl, rfl, rfl, rfl, rfl, rfl, rfl, rfl, rfl, rfl, rfl, rfl, rfl, rfl, rfl, rfl, rfl, trivial⟩, ⟨(bool_fin (by first | (rw [okT, if_pos hk0]) | (rw [okT, if_neg hk0, if_pos hk1]) | (rw [okT, if_neg hk0, if_neg hk1, if_pos hk2]) | (rw [okT, if_neg hk0, if_neg hk1, if_neg hk2, if_pos hk3]) | (rw [okT, if_neg hk0, if_neg hk1, if_neg hk2, if_neg hk3, if_pos hk4]) | (rw [okT, if_neg hk0, if_neg hk1, if_neg hk2, if_neg hk3, if_neg hk4, if_pos hk5]) | (rw [okT, if_neg hk0, if_neg hk1, if_neg hk2, if_neg hk3, if_neg hk4, if_neg hk5, if_pos hk6]) | (rw [okT, if_neg hk0, if_neg hk1, if_neg hk2, if_neg hk3, if_neg hk4, if_neg hk5, if_neg hk6]))), trivial⟩, ⟨rfl, rfl, rfl, rfl, rfl, trivial⟩⟩
                          · intro hc14
                            have hk6 : ¬ y = 6 := by have := of_decide_eq_false hc14; omega
                            refine Qk ?_
                            exact ⟨⟨rfl, rfl, rfl, rfl, rfl, rfl, rfl, rfl, rfl, rfl, rfl, rfl, rfl, rfl, rfl, rfl, rfl, rfl, trivial⟩, ⟨(bool_fin (by first | (rw [okT, if_pos hk0]) | (rw [okT, if_neg hk0, if_pos hk1]) | (rw [okT, if_neg hk0, if_neg hk1, if_pos hk2]) | (rw [okT, if_neg hk0, if_neg hk1, if_neg hk2, if_pos hk3]) | (rw [okT, if_neg hk0, if_neg hk1, if_neg hk2, if_neg hk3, if_pos hk4]) | (rw [okT, if_neg hk0, if_neg hk1, if_neg hk2, if_neg hk3, if_neg hk4, if_pos hk5]) | (rw [okT, if_neg hk0, if_neg hk1, if_neg hk2, if_neg hk3, if_neg hk4, if_neg hk5, if_pos hk6]) | (rw [okT, if_neg hk0, if_neg hk1, if_neg hk2, if_neg hk3, if_neg hk4, if_neg hk5, if_neg hk6]))), trivial⟩, ⟨rfl, rfl, rfl, rfl, rfl, trivial⟩⟩
            · simp only [catE]
              refine Qs<|Qs<|Qp<|(Qm)<|(Q0)<|Qn ?_
              refine e_cond rfl ?_ ?_
              · intro hc15
                rw [fin3_bad (i := 2 + i) (j := p) (by omega) hjl (by rw [hok]; simpa using hc15)]
                refine Qs<|Qp<|(Qa)<|Qn<|Qr ?_
                first | rw [fin3_ok (fun s t hs ht => by by_cases h2 : s < 2; exact hf0_2 s t h2 ht; (obtain ⟨s, rfl⟩ : ∃ r, s = 2 + r := ⟨s - 2, by omega⟩); exact hf2_2 s t (by omega) (by rw [hLt s (by omega), List.length_map, List.length_append] at ht; simpa using ht))] | skip
                exact ⟨_, rfl, .tmp rfl⟩
              · intro hc15
                have hcf : okAt L (2 + i) p = true := by rw [hok]; simpa using hc15
                refine Qk<|Qp<|(Qm)<|(Qm)<|(Qm) ?_
                refine e_buildS (arr .i64 2 (ev2 (whoT late i, y))) (Ub 55 rfl) (Uu 55 rfl) pls55 rfl (by kernel_rfl) rfl ?_
                refine e_buildSl 4 (arr .i64 2 (ev2 (whoT late i, y))) (Uu 52 rfl) (Uz 55 rfl) (Ub 55 rfl) (by decide) (by decide) rfl (by kernel_rfl) rfl fun r5 => ?_
                refine e_append 50 hf3_1 (ev_shows _ _ (whoT late i, y)) rfl (seen1 4 rfl ⟨[], trivial⟩) (Uu 52) (Uz 55) (Uy 55) (Ub 55) (by rfl) rfl rfl (ev_one _) (by simp only [maxLen]; omega) (by omega) rfl fun v10_4 oz10_4 ho10_4 => ?_
                refine (Qa)<|Qn<|Qp<|(Q2 1)<|(Qm)<|Qn ?_
                refine QzL ⟨p + 1, _, _, rfl, rfl, rfl, by omega, (own_fix ho10_4 (by rw [uptoE_next hjl, List.length_append, he]; rfl) (by rw [uptoE_next hjl, ← ev_push, he])), fun t ht => by by_cases e : t = p; (subst e; exact hcf); exact hf3_2 t (by omega)⟩ ⟨rfl, rfl, rfl, rfl, rfl, rfl, rfl, rfl, rfl, rfl, trivial⟩ ⟨rfl, rfl, rfl, rfl, rfl, trivial⟩ ?_
                omega
        · intro hc7
          have hc7 := of_decide_eq_false hc7
          have hz3 : p = ((us.getD i []).length + 1) := by omega
          refine Qe<|Qp<|(Q2 1)<|(Qm)<|Qn ?_
          refine QzL ⟨i + 1, _, _, rfl, rfl, rfl, by omega, (own_fix hf3_1 (by rw [hz3, hrow3]) (by rw [hz3, hrow3])), fun s t hs ht => by by_cases e : s = i; (subst e; exact hf3_2 t (by omega)); exact hf2_2 s t (by omega) ht⟩ ⟨rfl, rfl, rfl, rfl, rfl, rfl, trivial⟩ ⟨rfl, rfl, rfl, trivial⟩ ?_
          omega
    · intro hc5
      have hc5 := of_decide_eq_false hc5
      have hz2 : i = tvs.length := by omega
      refine Qe<|Qs<|Qp<|(Qa)<|Qn<|Qr ?_
      first | rw [fin3_ok (fun s t hs ht => by by_cases h2 : s < 2; exact hf0_2 s t h2 ht; (obtain ⟨s, rfl⟩ : ∃ r, s = 2 + r := ⟨s - 2, by omega⟩); exact hf2_2 s t (by omega) (by rw [hLt s (by omega), List.length_map, List.length_append] at ht; simpa using ht))] | skip
      exact ⟨_, rfl, .tmp rfl⟩
end Go.Proofs.Ytfldnikepdbgkaa
namespace Go.Proofs.Ytfldnikepdbgkaa
open Go Go.RowKit
theorem fault_all {G : Mem} (base : List Nat) (late : Bool) (vp v0 v1 vt : Value) (tvs : List Value) (p0 p1 : List Int) (ts : List (List Int)) (hvt : Shows G 1 vt tvs.length tvs) (hLI : ShowsLI G (v0 :: v1 :: tvs) (p0 :: p1 :: ts)) : Fn Try.prog G 12 #[.agg (cells 6 [pV (sv base), pV (.bool late), pV vp, pV v0, pV v1, pV vt])] (ii (pfault late p0 p1 ts)) := by
  have hl : tvs.length = ts.length := (li_tail (li_tail hLI)).1
  by_cases h0 : ts.length = 0
  · rw [pfault, if_pos (.inl h0)]; exact fault_none base late vp v0 v1 vt tvs hvt (by omega)
  by_cases h5 : 5 < ts.length
  · rw [pfault, if_pos (.inr h5)]; exact fault_many base late vp v0 v1 vt tvs hvt (by omega)
  by_cases hf : first1 (p0 :: p1 :: ts) = 0
  · have hz := first1_zero hf
    have e0 := wrong_no (hz p0 (by simp)).2
    have e1 := wrong_no (hz p1 (by simp)).2
    have et : ts = (ts.map fun t => t.map Int.toNat).map ci := by
      rw [List.map_map]
      conv => lhs; rw [← List.map_id ts]
      exact List.map_congr_left fun t ht => wrong_no (hz t (by simp [ht])).2
    rw [pfault, if_neg (by omega), if_pos hf]
    refine fault_main base late vp v0 v1 vt tvs (p0.map Int.toNat) (p1.map Int.toNat) (ts.map fun t => t.map Int.toNat) hvt (by rw [← e0, ← e1, ← et]; exact hLI) (by omega) (by omega) (by rw [← e0, ← e1, ← et]; exact hf) ?_ ?_ ?_
    · rw [List.length_map]; exact (hz p0 (by simp)).1
    · rw [List.length_map]; exact (hz p1 (by simp)).1
    · intro u hu
      obtain ⟨t, ht, rfl⟩ := List.mem_map.1 hu
      rw [List.length_map]; exact (hz t (by simp [ht])).1
  · rw [pfault, if_neg (by omega), if_neg hf]
    exact fault_first base late vp v0 v1 vt tvs p0 p1 ts _ hvt hLI (by omega) (by omega) rfl hf
variable {G : Mem}
end Go.Proofs.Ytfldnikepdbgkaa
namespace Go.Proofs.Ytfldnikepdbgkaa
open Go Go.RowKit
variable {G : Mem}
set_option maxHeartbeats 400000 in
theorem samet_rec (t u : TT) (c c2 : Value) (xs xs2 : List Value) (hT : TL G t.args c xs) (hU : TL G u.args c2 xs2) (hrec : ∀ (a b : TT) (c c2 : Value) (ys ys2 : List Value), a ∈ t.args → TL G a.args c ys → TL G b.args c2 ys2 → Fn Try.prog G 17 #[.agg (tC a c), .agg (tC b c2)] (.bool (a.eqb b))) : Fn Try.prog G 17 #[.agg (tC t c), .agg (tC u c2)] (.bool (t.eqb u)) := by
  have hco := shows_oneC hT.2.1
  have hco2 := shows_oneC hU.2.1
  have hml := hT.1
  simp only [maxLen] at hml
  have hmm := hU.1
  simp only [maxLen] at hmm
  rw [eqb_parts]
  obtain ⟨l, hl⟩ : ∃ l, l = t.args := ⟨_, rfl⟩
  obtain ⟨q, hq⟩ : ∃ q, q = u.args := ⟨_, rfl⟩
  rw [← hl] at hT hml hrec
  rw [← hq] at hU hmm
  rw [← hl, ← hq]
  refine Qf1 Try.func17 ?_
  refine Qs<|Qp<|(Qh 0) fun r1=>(Qh 1) fun r2=>(Qa)<|Qn<|Qs<|Qs<|Qp ?_
  refine e_join [(0, _), (1, _), (2, _), (3, _), (4, _)] [(34, .bool (decide (t.kind ≠ u.kind) || (decide (t.id ≠ u.id) || (decide (t.other ≠ u.other) || decide ((l.length : Int) ≠ (q.length : Int))))))] [(0, some _), (1, some _)] ⟨rfl, rfl, rfl, rfl, rfl, trivial⟩ ⟨rfl, rfl, trivial⟩ ?_ ?_
  · skip
    refine (Qf 0)<|(QV 0 0)<|(Qf 0)<|(QV 0 1)<|(QN)<|(Qm) ?_
    refine e_case (fun hb0 => ?_) (fun hb0 => ?_)
    · skip
      refine (Qo)<|(Qo)<|(Qo)<|(Qo)<|(Qo)<|(QT)<|(Qm)<|(Qo)<|(Qo)<|(Qo)<|(Qo)<|(Qo)<|(QT)<|(Qm)<|(Qo)<|(Qo)<|(Qo)<|(Qo)<|(Qo)<|(Qo)<|(Qo)<|(QT)<|Qn ?_
      exact ⟨⟨rfl, rfl, rfl, rfl, rfl, trivial⟩, ⟨bool_fin (by rw [hb0] <;> rfl), trivial⟩, ⟨rfl, rfl, trivial⟩⟩
    · skip
      refine (Qy)<|(Qf 1)<|(Qy)<|(QV 1 0)<|(Qy)<|(Qf 1)<|(Qy)<|(QV 1 1)<|(Qy)<|(QN)<|(QF)<|(Qm) ?_
      refine e_case (fun hb1 => ?_) (fun hb1 => ?_)
      · skip
        refine (Qo)<|(Qo)<|(Qo)<|(Qo)<|(Qo)<|(QT)<|(Qm)<|(Qo)<|(Qo)<|(Qo)<|(Qo)<|(Qo)<|(Qo)<|(Qo)<|(QT)<|Qn ?_
        exact ⟨⟨rfl, rfl, rfl, rfl, rfl, trivial⟩, ⟨bool_fin (by rw [hb0, hb1] <;> rfl), trivial⟩, ⟨rfl, rfl, trivial⟩⟩
      · skip
        refine (Qy)<|(Qf 2)<|(Qy)<|(QV 2 0)<|(Qy)<|(Qf 2)<|(Qy)<|(QV 2 1)<|(Qy)<|(QN)<|(QF)<|(Qm) ?_
        refine e_case (fun hb2 => ?_) (fun hb2 => ?_)
        · skip
          refine (Qo)<|(Qo)<|(Qo)<|(Qo)<|(Qo)<|(Qo)<|(Qo)<|(QT)<|Qn ?_
          exact ⟨⟨rfl, rfl, rfl, rfl, rfl, trivial⟩, ⟨bool_fin (by rw [hb0, hb1, hb2] <;> rfl), trivial⟩, ⟨rfl, rfl, trivial⟩⟩
        · skip
          refine (Qy)<|(Qf 3)<|(Qy)<|(QV 3 0)<|(Qy)<|(QC hT.2.1)<|(Qy)<|(Qf 3)<|(Qy)<|(QV 3 1)<|(Qy)<|(QC hU.2.1)<|(Qy)<|(QN)<|(QF)<|Qn ?_
          exact ⟨⟨rfl, rfl, rfl, rfl, rfl, trivial⟩, ⟨bool_fin (by rw [hb0, hb1, hb2] <;> rfl), trivial⟩, ⟨rfl, rfl, trivial⟩⟩
  · simp only [catE]
    refine e_cond rfl ?_ ?_
    · intro hc0
      rw [show (decide (t.kind = u.kind) && decide (t.id = u.id) && decide (t.other = u.other) && eqbL l q) = false from parts_ne hc0]
      refine Qs<|Qp<|(Qa)<|Qn<|Qr ?_
      first | rw [eqbL_all hlen (fun j h h2 => hf0_1 j h h2 (by omega))] | skip
      exact ⟨_, rfl, .tmp rfl⟩
    · intro hc0
      obtain ⟨hk1, hk2, hk3, hlen⟩ := parts_eq hc0
      rw [decide_eq_true hk1, decide_eq_true hk2, decide_eq_true hk3, Bool.true_and, Bool.true_and, Bool.true_and]
      refine Qk<|Qs<|Qs<|Qp<|(Qf 3)<|(QV 3 0)<|(QC hT.2.1)<|(Qm)<|Qn<|Qb ?_
      refine QzK [(3, _), (36, _), (37, _)] [(0, _), (1, _)] (fun kk E m => ∃ (i : Nat), kk = l.length - i ∧ E = [(38, ii i)] ∧ m = [] ∧ (i ≤ l.length) ∧ (∀ j (h : j < l.length) (h2 : j < q.length), j < i → l[j].eqb q[j] = true)) ⟨0, rfl, rfl, rfl, by omega, fun _ _ _ h => absurd h (Nat.not_lt_zero _)⟩ ⟨rfl, rfl, rfl, rfl, trivial⟩ ⟨rfl, rfl, trivial⟩ ?_
      rintro kk E m ⟨i, rfl, rfl, rfl, hf0_0, hf0_1⟩
      simp only [catE, catL]
      refine Qs<|Qp<|(Ql)<|Qn<|Qs ?_
      refine e_cond rfl ?_ ?_
      · intro hc1
        have hc1 : i < l.length := by have := of_decide_eq_true hc1; omega
        obtain ⟨c1, ys1, hcs1, hl1⟩ := hT.at (show i < l.length by omega)
        have hin1 := List.getElem_mem (show i < l.length by omega)
        obtain ⟨c2, ys2, hcs2, hl2⟩ := hU.at (show i < q.length by omega)
        have hin2 := List.getElem_mem (show i < q.length by omega)
        refine Qk<|Qs<|Qb<|Qs<|Qp<|(Qm) ?_
        refine e_atV hT.2.1 (Uu 27) (Uz 39) rfl rfl (by omega) rfl ?_
        refine e_loadVS hT.2.1 seenG (Uu 39) rfl (Uz 39) rfl (by decide) (by have := hT.2.1.len; omega) hcs1 rfl ?_
        refine e_as (show _ = Value.agg (tC l[i] c1) from rfl) ?_
        refine (QH 2) fun r3=>(Qa) ?_
        refine e_storeA (i := 2) (Uz 39) rfl rfl (arrv_size _ _) (cells_one ⟨fun _ => rfl, fun _ => rfl, fun _ => rfl, fun _ => shows_oneC hl1.2.1, trivial⟩) rfl cells_sz (.inl rfl) ?_
        refine Qn<|Qs<|(Qg)<|(QD 2)<|(Qf 3)<|(QV 3 1)<|(Qm) ?_
        refine e_atV hU.2.1 (Uu 27) (Uz 39) rfl rfl (by omega) rfl ?_
        refine e_loadVS hU.2.1 seenG (Uu 39) rfl (Uz 39) rfl (by decide) (by have := hU.2.1.len; omega) hcs2 rfl ?_
        refine e_as (show _ = Value.agg (tC q[i] c2) from rfl) ?_
        refine e_call rfl (Un 17) (hrec l[i] q[i] c1 c2 ys1 ys2 hin1 hl1 hl2) rfl rfl ?_
        refine (Q0)<|Qn ?_
        refine e_cond rfl ?_ ?_
        · intro hc2
          rw [eqbL_at (j := i) (by assumption) (by omega) (by simpa using hc2)]
          refine Qs<|Qp<|(Qa)<|Qn<|Qr ?_
          first | rw [eqbL_all hlen (fun j h h2 => hf0_1 j h h2 (by omega))] | skip
          exact ⟨_, rfl, .tmp rfl⟩
        · intro hc2
          have hz9 : l[i].eqb q[i] = true := by simpa using hc2
          refine Qk<|Qp<|(Q2 1)<|(Qm)<|Qn ?_
          refine QzL ⟨i + 1, rfl, rfl, rfl, by omega, fun j h h2 hj => by by_cases e : j = i; (subst e; exact hz9); exact hf0_1 j h h2 (by omega)⟩ ⟨rfl, rfl, rfl, rfl, trivial⟩ ⟨rfl, rfl, trivial⟩ ?_
          omega
      · intro hc1
        have hc1 := of_decide_eq_false hc1
        have hz0 : i = l.length := by omega
        refine Qe<|Qs<|Qp<|(Qa)<|Qn<|Qr ?_
        first | rw [eqbL_all hlen (fun j h h2 => hf0_1 j h h2 (by omega))] | skip
        exact ⟨_, rfl, .tmp rfl⟩
end Go.Proofs.Ytfldnikepdbgkaa
namespace Go.Proofs.Ytfldnikepdbgkaa
open Go Go.RowKit
variable {G : Mem}
end Go.Proofs.Ytfldnikepdbgkaa
namespace Go.Proofs.Ytfldnikepdbgkaa
open Go Go.RowKit
variable {G : Mem}
end Go.Proofs.Ytfldnikepdbgkaa
namespace Go.Proofs.Ytfldnikepdbgkaa
open Go Go.RowKit
theorem samet_fn {G : Mem} (t : TT) : ∀ (u : TT) (c c2 : Value) (ys ys2 : List Value), TL G t.args c ys → TL G u.args c2 ys2 → Fn Try.prog G 17 #[.agg (tC t c), .agg (tC u c2)] (.bool (t.eqb u)) := by
  refine TT.ind (p := fun t => ∀ (u : TT) (c c2 : Value) (ys ys2 : List Value), TL G t.args c ys → TL G u.args c2 ys2 → Fn Try.prog G 17 #[.agg (tC t c), .agg (tC u c2)] (.bool (t.eqb u))) (fun t ih u c c2 ys ys2 hT hU => ?_) t
  exact samet_rec t u c c2 ys ys2 hT hU fun a b c c2 ys ys2 ha hA hB => ih a ha b c c2 ys ys2 hA hB
variable {G : Mem}
end Go.Proofs.Ytfldnikepdbgkaa
namespace Go.Proofs.Ytfldnikepdbgkaa
open Go Go.RowKit
variable {G : Mem}
set_option maxHeartbeats 4000000 in
theorem dtold_err (base : List Nat) (late : Bool) (vp v0 v1 vt : Value) (tvs : List Value) (ps p0 p1 : List Int) (ts : List (List Int)) (hvp : Shows G 1 vp ps.length (ps.map iv)) (hvt : Shows G 1 vt tvs.length tvs) (hLI : ShowsLI G (v0 :: v1 :: tvs) (p0 :: p1 :: ts)) (hpf : pfault late p0 p1 ts ≠ 0) : Fn Try.prog G 6 #[.agg (cells 6 [pV (sv base), pV (.bool late), pV vp, pV v0, pV v1, pV vt])] (.tuple #[nilS, ii (pfault late p0 p1 ts)]) := by
  have hT := li_tail (li_tail hLI)
  have htl : tvs.length = ts.length := hT.1
  have o1 := shows_oneC hvp
  have o2 := shows_oneC (vq_show hLI 0 (by decide))
  have o3 := shows_oneC (vq_show hLI 1 (by decide))
  have o4 := shows_oneC hvt
  refine Qf2 Try.func6 ?_
  refine Qs<|Qp<|(Qh 0) fun r1=>(Qa)<|(Qa)<|Qn<|Qs<|Qs<|Qp<|(QD 0) ?_
  refine e_call rfl (Un 12) (fault_all base late vp v0 v1 vt tvs p0 p1 ts hvt hLI) rfl rfl ?_
  refine (Qa)<|Qn<|Qs<|Qp<|(Qm)<|(QN)<|(Qat)<|Qn<|(Qct)<|Qs<|Qp<|(Qm)<|(Qa)<|(Qa)<|Qn<|Qr ?_
  exact ⟨_, _, rfl, .tmp rfl, .tmp rfl⟩
set_option maxHeartbeats 4000000 in
theorem dtold_size (base : List Nat) (late : Bool) (vp v0 v1 vt : Value) (tvs : List Value) (ps p0 p1 : List Int) (ts : List (List Int)) (hvp : Shows G 1 vp ps.length (ps.map iv)) (hvt : Shows G 1 vt tvs.length tvs) (hLI : ShowsLI G (v0 :: v1 :: tvs) (p0 :: p1 :: ts)) (hpf : pfault late p0 p1 ts = 0) (h4 : 4 < ps.length) : Fn Try.prog G 6 #[.agg (cells 6 [pV (sv base), pV (.bool late), pV vp, pV v0, pV v1, pV vt])] (.tuple #[nilS, ii 1]) := by
  have hT := li_tail (li_tail hLI)
  have htl : tvs.length = ts.length := hT.1
  have o1 := shows_oneC hvp
  have o2 := shows_oneC (vq_show hLI 0 (by decide))
  have o3 := shows_oneC (vq_show hLI 1 (by decide))
  have o4 := shows_oneC hvt
  refine Qf2 Try.func6 ?_
  refine Qs<|Qp<|(Qh 0) fun r1=>(Qa)<|(Qa)<|Qn<|Qs<|Qs<|Qp<|(QD 0) ?_
  refine e_call rfl (Un 12) (fault_all base late vp v0 v1 vt tvs p0 p1 ts hvt hLI) rfl rfl ?_
  refine e_as (congrArg ii hpf) ?_
  refine (Qa)<|Qn<|Qs<|Qp<|(Qm)<|(QN) ?_
  refine e_as (congrArg Value.bool (decide_eq_false (by decide))) ?_
  refine Qn<|(Qcf)<|Qk<|Qs<|Qs<|Qp<|(Qf 2)<|(QV 2 0)<|(QC hvp)<|(QG)<|(Qat)<|Qn<|(Qct)<|Qs<|Qp<|(Qa)<|(Qa)<|Qn<|Qr ?_
  exact ⟨_, _, rfl, .tmp rfl, .tmp rfl⟩
set_option maxHeartbeats 400000 in
theorem sameTs_fn (l q : List TT) (c c2 : Value) (xs xs2 : List Value) (hT : TL G l c xs) (hU : TL G q c2 xs2) (hl : l = q) : Fn Try.prog G 7 #[c, c2] (.bool true) := by
  subst hl
  have hml := hT.1
  simp only [maxLen] at hml
  refine Qf1 Try.func7 ?_
  refine Qs<|Qp<|(Qa)<|Qn<|Qs<|Qs<|Qp<|(Qm)<|(QC hT.2.1)<|(Qm)<|(QC hU.2.1)<|(QN)<|(Qaf)<|Qn<|(Qcf)<|Qk<|Qs<|Qs<|Qp<|(Qm)<|(QC hT.2.1)<|(Qm)<|Qn<|Qb ?_
  refine QzK [(0, _), (1, _), (12, _)] [] (fun kk E m => ∃ (i : Nat), kk = l.length - i ∧ E = [(13, ii i)] ∧ m = [] ∧ (i ≤ l.length)) ⟨0, rfl, rfl, rfl, by omega⟩ ⟨rfl, rfl, rfl, rfl, trivial⟩ trivial ?_
  rintro kk E m ⟨i, rfl, rfl, rfl, hf0_0⟩
  simp only [catE, catL]
  refine Qs<|Qp<|(Ql)<|Qn<|Qs ?_
  refine e_cond rfl ?_ ?_
  · intro hc1
    have hc1 : i < l.length := by have := of_decide_eq_true hc1; omega
    obtain ⟨c1, ys1, hcs1, hl1⟩ := hT.at (show i < l.length by omega)
    have hin1 := List.getElem_mem (show i < l.length by omega)
    obtain ⟨c2, ys2, hcs2, hl2⟩ := hU.at (show i < l.length by omega)
    have hin2 := List.getElem_mem (show i < l.length by omega)
    refine Qk<|Qs<|Qb<|Qs<|Qp<|(Qm)<|(Qa)<|Qn<|Qs<|(Qg)<|(Qm)<|(Qm) ?_
    refine e_atV hT.2.1 (Uu 27) (Uz 39) rfl rfl (by omega) rfl ?_
    refine e_loadVS hT.2.1 seenG (Uu 39) rfl (Uz 39) rfl (by decide) (by have := hT.2.1.len; omega) hcs1 rfl ?_
    refine e_as (show _ = Value.agg (tC l[i] c1) from rfl) ?_
    refine (Qm)<|(Qm) ?_
    refine e_atV hU.2.1 (Uu 27) (Uz 39) rfl rfl (by omega) rfl ?_
    refine e_loadVS hU.2.1 seenG (Uu 39) rfl (Uz 39) rfl (by decide) (by have := hU.2.1.len; omega) hcs2 rfl ?_
    refine e_as (show _ = Value.agg (tC l[i] c2) from rfl) ?_
    refine e_call rfl (Un 17) (samet_fn l[i] l[i] c1 c2 ys1 ys2 hl1 hl2) rfl rfl ?_
    refine e_as (congrArg Value.bool (eqb_self _)) ?_
    refine (Q0)<|Qn<|(Qcf)<|Qk<|Qp<|(Q2 1)<|(Qm)<|Qn ?_
    refine QzL ⟨i + 1, rfl, rfl, rfl, by omega⟩ ⟨rfl, rfl, rfl, rfl, trivial⟩ trivial ?_
    omega
  · intro hc1
    have hc1 := of_decide_eq_false hc1
    have hz0 : i = l.length := by omega
    refine Qe<|Qs<|Qp<|(Qa)<|Qn<|Qr ?_
    exact ⟨_, rfl, .tmp rfl⟩
end Go.Proofs.Ytfldnikepdbgkaa
namespace Go.Proofs.Ytfldnikepdbgkaa
open Go Go.RowKit
variable {G : Mem}
set_option maxHeartbeats 32000000 in
theorem dtold_ok (base : List Nat) (late : Bool) (vp v0 v1 vt : Value) (tvs : List Value) (ps p0 p1 : List Int) (ts : List (List Int)) (hvp : Shows G 1 vp ps.length (ps.map iv)) (hvt : Shows G 1 vt tvs.length tvs) (hLI : ShowsLI G (v0 :: v1 :: tvs) (p0 :: p1 :: ts)) (hpf : pfault late p0 p1 ts = 0) (h4 : ps.length ≤ 4) : Fx Try.prog G [] 6 #[.agg (cells 6 [pV (sv base), pV (.bool late), pV vp, pV v0, pV v1, pV vt])] (fun v l1 nw => l1 = [] ∧ ToldD late ps.length p0 p1 ts v nw) := by
  have hT := li_tail (li_tail hLI)
  have htl : tvs.length = ts.length := hT.1
  have o1 := shows_oneC hvp
  have o2 := shows_oneC (vq_show hLI 0 (by decide))
  have o3 := shows_oneC (vq_show hLI 1 (by decide))
  have o4 := shows_oneC hvt
  obtain ⟨⟨h1, h5⟩, ⟨h60, h61⟩, h6⟩ := pf_sizes hpf
  obtain ⟨hc0_, hc1_⟩ := pf_once hpf
  have hpr := preT_early (np := ps.length) hc0_ hc1_
  have hpq := vq_show hLI
  have hG : WS.Good ⟨[], if 0 < ps.length then earlyT p0 p1 else [], 0⟩ 2 := by (by_cases h : 0 < ps.length); (rw [if_pos h]; exact good_early p0 p1); (rw [if_neg h]; exact good_zero 2)
  have hl0 : ∀ t ∈ (WS.mixed ⟨[], if 0 < ps.length then earlyT p0 p1 else [], 0⟩), t.args = [] := s0_leaf ps.length p0 p1
  refine fxDV (n := 152) Try.func6 rfl rfl (by simp) (argE [.agg (cells 6 [pV (sv base), pV (.bool late), pV vp, pV v0, pV v1, pV vt])] 0) (argE_ok _) ?_
  refine Qs<|Qp<|(Qh 0) fun r1=>(Qa)<|(Qa)<|Qn<|Qs<|Qs<|Qp<|(QD 0) ?_
  refine e_call rfl (Un 12) (fault_all base late vp v0 v1 vt tvs p0 p1 ts hvt hLI) rfl rfl ?_
  refine e_as (congrArg ii hpf) ?_
  refine (Qa)<|Qn<|Qs<|Qp<|(Qm)<|(QN) ?_
  refine e_as (congrArg Value.bool (decide_eq_false (by decide))) ?_
  refine Qn<|(Qcf)<|Qk<|Qs<|Qs<|Qp<|(Qf 2)<|(QV 2 0)<|(QC hvp)<|(QG)<|(Qaf)<|Qn<|(Qcf)<|Qk<|Qs<|Qp ?_
  refine e_buildSl0 1 (Uu 27 rfl) (Uz 39 rfl) rfl fun r2 => ?_
  refine (QH 2) fun r3=>?_
  refine e_store1 (i := 2) (Uz 27) rfl rfl rfl rfl rfl (hid_none rfl (.inl rfl)) ?_
  refine Qn<|Qs<|Qp<|(QY)<|(QH 3) fun r4=>?_
  refine e_store1 (i := 3) (Uz 40) rfl rfl rfl rfl rfl (hid_none rfl (.inl rfl)) ?_
  refine Qn<|Qs<|Qp<|(QH 4) fun r5=>Qn<|Qs<|Qp<|(QY)<|(Qa)<|Qn<|Qs<|Qp<|(Qa)<|Qn<|Qs<|Qs<|Qp<|(Qm)<|Qn<|Qb ?_
  refine QzK [(1, _), (2, _), (3, _), (5, _), (7, _), (8, _), (9, _)] [(0, _), (3, _), (4, _)] (fun kk E m => ∃ (a : Nat) (vm : Value) (om : Option Blk), kk = 2 - a ∧ E = [(32, ii a)] ∧ m = [(1, om), (2, (some ⟨r3, #[vm], 27⟩))] ∧ (a ≤ 2) ∧ (OwnS 39 4 vm (preT ps.length p0 p1 a 0).length (lfC (preT ps.length p0 p1 a 0)) (Option.toList om))) ⟨0, (.slice (some ⟨r2, 0, none⟩) 0 0), (some ⟨r2, #[], 39⟩), rfl, rfl, rfl, by omega, (by rw [preT_zero]; exact own_none)⟩ ⟨rfl, rfl, rfl, rfl, rfl, rfl, rfl, rfl, trivial⟩ ⟨rfl, rfl, rfl, rfl, rfl, trivial⟩ ?_
  rintro kk E m ⟨a, vm, om, rfl, rfl, rfl, hf0_0, hf0_1⟩
  simp only [catE, catL]
  refine Qs<|Qp<|(Ql)<|Qn<|Qs ?_
  refine e_cond rfl ?_ ?_
  · intro hc2
    have hc2 : a < 2 := by have := of_decide_eq_true hc2; omega
    refine Qk<|Qs<|Qb<|Qs<|Qp<|(Qm)<|(Qa)<|Qn<|Qs<|Qp<|(Qm)<|(Qf 3)<|(QB (3 + a)) ?_
    refine e_load1 (i := 0) (Uu 22) rfl rfl rfl (pre_cell (by omega)) rfl ⟨[], trivial⟩ ?_
    refine (QC (hpq a (by omega)))<|(Qm)<|Qn<|Qb ?_
    refine QzK [(1, _), (2, _), (3, _), (5, _), (7, _), (8, _), (9, _), (10, _), (32, _), (38, _), (39, _)] [(0, _), (3, _), (4, _)] (fun kk E m => ∃ (b : Nat) (vm2 : Value) (om2 : Option Blk), kk = (pq p0 p1 a).length - b ∧ E = [(40, ii b)] ∧ m = [(1, om2), (2, (some ⟨r3, #[vm2], 27⟩))] ∧ (b ≤ (pq p0 p1 a).length) ∧ (OwnS 39 4 vm2 (preT ps.length p0 p1 a b).length (lfC (preT ps.length p0 p1 a b)) (Option.toList om2))) ⟨0, vm, om, rfl, rfl, rfl, by omega, hf0_1⟩ ⟨rfl, rfl, rfl, rfl, rfl, rfl, rfl, rfl, rfl, rfl, rfl, rfl, trivial⟩ ⟨rfl, rfl, rfl, rfl, rfl, trivial⟩ ?_
    rintro kk E m ⟨b, vm2, om2, rfl, rfl, rfl, hf1_0, hf1_1⟩
    simp only [catE, catL]
    have hpl := preT_len (np := ps.length) (b := b) h60 h61 (show a ≤ 2 by omega)
    have hq6 : (pq p0 p1 a).length ≤ 6 := by unfold pq; split <;> assumption
    refine Qs<|Qp<|(Ql)<|Qn<|Qs ?_
    refine e_cond rfl ?_ ?_
    · intro hc3
      have hc3 : b < (pq p0 p1 a).length := by have := of_decide_eq_true hc3; omega
      refine Qk<|Qs<|Qb<|Qs<|Qp ?_
      refine e_atV (hpq a (by omega)) (Uu 22) (Uz 3) rfl rfl (by omega) rfl ?_
      refine (QS) ?_
      refine e_loadV (hpq a (by omega)) seenG (Uu 3) rfl rfl (iv_at (by omega)) rfl ?_
      refine (Qa)<|Qn<|Qs<|Qp ?_
      refine e_join [(1, _), (2, _), (3, _), (5, _), (7, _), (8, _), (9, _), (10, _), (12, _), (32, _), (38, _), (39, _), (40, _), (41, _), (42, _), (43, _)] [(51, .bool (decide ((pq p0 p1 a).getD b 0 = 1) && decide (0 < ps.length)))] [(0, some _), (1, om2), (2, (some ⟨r3, #[vm2], 27⟩)), (3, some _), (4, some _)] ⟨rfl, rfl, rfl, rfl, rfl, rfl, rfl, rfl, rfl, rfl, rfl, rfl, rfl, rfl, rfl, rfl, trivial⟩ ⟨rfl, rfl, rfl, rfl, rfl, trivial⟩ ?_ ?_
      · skip
        refine (Qm)<|(Qc)<|(Qm) ?_
        refine e_case (fun hb0 => ?_) (fun hb0 => ?_)
        · skip
          refine (Qy)<|(Qf 2)<|(Qy)<|(QV 2 0)<|(Qy)<|(QC hvp)<|(Qy)<|(QG) ?_
          refine e_as (congrArg Value.bool (dec_pos ps.length)) ?_
          refine (QT)<|Qn ?_
          exact ⟨⟨rfl, rfl, rfl, rfl, rfl, rfl, rfl, rfl, rfl, rfl, rfl, rfl, rfl, rfl, rfl, rfl, trivial⟩, ⟨bool_fin (by rw [hb0] <;> rfl), trivial⟩, ⟨rfl, rfl, rfl, rfl, rfl, trivial⟩⟩
        · skip
          refine (Qo)<|(Qo)<|(Qo)<|(Qo)<|(QF)<|Qn ?_
          exact ⟨⟨rfl, rfl, rfl, rfl, rfl, rfl, rfl, rfl, rfl, rfl, rfl, rfl, rfl, rfl, rfl, rfl, trivial⟩, ⟨bool_fin (by rw [hb0] <;> rfl), trivial⟩, ⟨rfl, rfl, rfl, rfl, rfl, trivial⟩⟩
      · simp only [catE]
        refine e_cond rfl ?_ ?_
        · intro hc4
          have hc9 := hc4
          refine (Qq ⟨[], 1, [], none, (some (5, r3))⟩) ?_
          refine e_load1 (i := 2) (Uu 27) rfl rfl rfl (show _ = some _ from rfl) rfl ⟨[], trivial⟩ ?_
          refine (Qm) ?_
          refine e_add_i (p := 3) rfl rfl rfl (by omega) ?_
          refine e_call rfl (Un 16) (dpub_fn ((3 + a : Nat) : Int)) rfl rfl ?_
          refine (QC hf1_1.shows) ?_
          refine e_buildSl 5 #[iv 0, iv 0, iv 0, nilS] (Uu 27 rfl) (Uz 39 rfl) (Ub 39 rfl) (by decide) (by decide) rfl (by kernel_rfl) rfl fun r6 => ?_
          refine e_append 1 hf1_1 (shows_new _ _ (by rfl)) rfl (seen1 5 rfl ⟨[], trivial⟩) (Uu 27) (Uz 39) (Uy 39) (Ub 39) (by rfl) rfl rfl (by decide) (by simp only [maxLen]; omega) (by omega) rfl fun v7_1 oz7_1 ho7_1 => ?_
          refine e_atV ho7_1.shows (Uu 27) (Uz 39) rfl rfl (by omega) rfl ?_
          refine e_stOwnS (i := 1) ho7_1 (Uz 39) rfl rfl (arrv_size _ _) (cells_one ⟨fun _ => rfl, fun _ => rfl, fun _ => rfl, fun _ => rfl, trivial⟩) rfl (by omega) rfl (fun oz7_2 ho7_2 => ?_) (y_off 2 rfl (by decide) rfl (by decide))
          refine e_store1 (i := 2) (Uz 27) rfl rfl (shows_oneC (OwnS.shows (own_fill (lfC_len _) rfl ho7_2))) rfl rfl (hid_var rfl rfl) ?_ (y_var rfl rfl)
          refine Qn ?_
          have hown9 := own_app (L := (preT ps.length p0 p1 a b)) (pubT ((3 + a : Nat) : Int)) (own_fill (lfC_len _) rfl ho7_2)
          refine Qp<|(Q2 1)<|(Qm)<|Qn ?_
          refine QzL ⟨b + 1, _, _, rfl, rfl, rfl, by omega, (by first | exact own_fix hown9 (by rw [preT_yes (by omega) hc9]) (by rw [preT_yes (by omega) hc9, lfC_snoc]) | exact own_fix hf1_1 (by rw [preT_no (by omega) hc9]) (by rw [preT_no (by omega) hc9]))⟩ ⟨rfl, rfl, rfl, rfl, rfl, rfl, rfl, rfl, rfl, rfl, rfl, rfl, trivial⟩ ⟨rfl, rfl, rfl, rfl, rfl, trivial⟩ ?_
          omega
        · intro hc4
          have hc9 := hc4
          refine Qk<|Qp<|(Q2 1)<|(Qm)<|Qn ?_
          refine QzL ⟨b + 1, _, _, rfl, rfl, rfl, by omega, (by first | exact own_fix hown9 (by rw [preT_yes (by omega) hc9]) (by rw [preT_yes (by omega) hc9, lfC_snoc]) | exact own_fix hf1_1 (by rw [preT_no (by omega) hc9]) (by rw [preT_no (by omega) hc9]))⟩ ⟨rfl, rfl, rfl, rfl, rfl, rfl, rfl, rfl, rfl, rfl, rfl, rfl, trivial⟩ ⟨rfl, rfl, rfl, rfl, rfl, trivial⟩ ?_
          omega
    · intro hc3
      have hc3 := of_decide_eq_false hc3
      have hz1 : b = (pq p0 p1 a).length := by omega
      refine Qe<|Qp<|(Q2 1)<|(Qm)<|Qn ?_
      refine QzL ⟨a + 1, _, _, rfl, rfl, rfl, by omega, (own_fix hf1_1 (by rw [preT_row _ _ _ hz1]) (by rw [preT_row _ _ _ hz1]))⟩ ⟨rfl, rfl, rfl, rfl, rfl, rfl, rfl, rfl, trivial⟩ ⟨rfl, rfl, rfl, rfl, rfl, trivial⟩ ?_
      omega
  · intro hc2
    have hc2 := of_decide_eq_false hc2
    have hz0 : a = 2 := by omega
    refine Qe<|Qs<|Qs<|Qp<|(Qf 5)<|(QV 5 0)<|(QC hvt)<|(Qm)<|Qn<|Qb ?_
    refine e_loopB [(1, _), (2, _), (3, _), (5, _), (7, _), (8, _), (32, _), (63, _), (64, _)] [(0, _), (3, _)] (fun kk E m fz => ∃ (i : Nat) (vm3 : Value) (om3 : Option Blk) (co : Array Value) (oo : Option Blk), kk = tvs.length - i ∧ E = [(9, ii (WS.upTo (decide (0 < ps.length)) late ⟨[], if 0 < ps.length then earlyT p0 p1 else [], 0⟩ ts i).used), (65, ii i)] ∧ m = [(1, om3), (2, (some ⟨r3, #[vm3], 27⟩)), (4, (some ⟨r5, co, 27⟩)), (50, oo), (60, none)] ∧ (i ≤ tvs.length) ∧ (OwnS 39 4 vm3 (WS.upTo (decide (0 < ps.length)) late ⟨[], if 0 < ps.length then earlyT p0 p1 else [], 0⟩ ts i).mixed.length (lfC (WS.upTo (decide (0 < ps.length)) late ⟨[], if 0 < ps.length then earlyT p0 p1 else [], 0⟩ ts i).mixed) (Option.toList om3)) ∧ (OutIs 39 fz (WS.upTo (decide (0 < ps.length)) late ⟨[], if 0 < ps.length then earlyT p0 p1 else [], 0⟩ ts i).told co oo)) (k := tvs.length - 0) (E0 := [(9, ii (WS.upTo (decide (0 < ps.length)) late ⟨[], if 0 < ps.length then earlyT p0 p1 else [], 0⟩ ts 0).used), (65, ii 0)]) (M0 := [(1, om), (2, (some ⟨r3, #[vm], 27⟩)), (4, (some ⟨r5, #[nilS], 27⟩)), (50, none), (60, none)]) (fz := []) ⟨0, vm, om, #[nilS], none, rfl, rfl, rfl, by omega, (own_fix hf0_1 (by rw [hz0, hpr]; rfl) (by rw [hz0, hpr]; rfl)), out_zero⟩ ⟨rfl, rfl, rfl, rfl, rfl, rfl, rfl, rfl, rfl, rfl, rfl, trivial⟩ ⟨rfl, rfl, rfl, rfl, rfl, rfl, rfl, trivial⟩ (by repeat (first | exact bag_nil | exact bag_lab _ | apply bag_skip rfl)) ?_
    rintro kk E m fz ⟨i, vm3, om3, co, oo, rfl, rfl, rfl, hf2_0, hf2_1, hf2_2⟩
    simp only [catE, catL]
    have hwl := whoT_lt late i
    have hgi := hG.upTo h6 (sec := (decide (0 < ps.length))) (late := late) (s := ⟨[], if 0 < ps.length then earlyT p0 p1 else [], 0⟩) i (by omega)
    refine Qs<|Qp<|(Ql)<|Qn<|Qs ?_
    refine e_cond rfl ?_ ?_
    · intro hc5
      have hc5 : i < tvs.length := by have := of_decide_eq_true hc5; omega
      refine Qk<|Qs<|Qb<|Qs<|Qp<|(Qm) ?_
      refine e_atV hvt (Uu 24) (Uz 22) rfl rfl (by omega) rfl ?_
      refine (QS) ?_
      refine e_loadV hvt seenG (Uu 22) rfl rfl (get_getD (by omega)) rfl ?_
      refine (Qa)<|(Qa)<|Qn<|Qs<|Qp<|(Qm)<|(Q4 2)<|(Qa)<|Qn<|Qs<|Qs<|Qp<|(Qf 1)<|(QV 1 0)<|Qn ?_
      refine s_join [(1, _), (2, _), (3, _), (5, _), (7, _), (8, _), (9, _), (13, _), (14, _), (32, _), (63, _), (64, _), (65, _), (66, _), (67, _), (68, _), (69, _), (70, _), (71, _), (72, _), (73, _)] [(15, ii (whoT late i))] (catL [(0, some _), (1, om3), (2, (some ⟨r3, #[vm3], 27⟩)), (3, some _), (4, (some ⟨r5, co, 27⟩)), (50, oo), (60, none)] (lab 1000 fz)) ⟨rfl, rfl, rfl, rfl, rfl, rfl, rfl, rfl, rfl, rfl, rfl, rfl, rfl, rfl, rfl, rfl, rfl, rfl, rfl, rfl, rfl, trivial⟩ (subL_cat ⟨rfl, rfl, rfl, rfl, rfl, rfl, rfl, trivial⟩ (bag_sub (by repeat (first | exact bag_nil | exact bag_lab _ | apply bag_skip rfl)))) ?_ ?_
      · skip
        refine e_cond rfl ?_ ?_
        · intro hc6
          have hcL := hc6
          refine Qp<|(Qm) ?_
          refine e_sub_in (p := 1) rfl rfl rfl (by omega) (by omega) ?_
          refine (Qa)<|Qn ?_
          exact ⟨⟨rfl, rfl, rfl, rfl, rfl, rfl, rfl, rfl, rfl, rfl, rfl, rfl, rfl, rfl, rfl, rfl, rfl, rfl, rfl, rfl, rfl, trivial⟩, ⟨(by first | (show some (ii (1 - i % 2)) = _; rw [whoT, hcL, if_pos rfl, show 1 - i % 2 = (i + 1) % 2 by omega]) | (rw [whoT, hcL] <;> rfl)), trivial⟩, (subL_cat ⟨rfl, rfl, rfl, rfl, rfl, rfl, rfl, trivial⟩ (bag_sub (by repeat (first | exact bag_nil | exact bag_lab _ | apply bag_skip rfl))))⟩
        · intro hc6
          have hcL := hc6
          refine Qk ?_
          exact ⟨⟨rfl, rfl, rfl, rfl, rfl, rfl, rfl, rfl, rfl, rfl, rfl, rfl, rfl, rfl, rfl, rfl, rfl, rfl, rfl, rfl, rfl, trivial⟩, ⟨(by first | (show some (ii (1 - i % 2)) = _; rw [whoT, hcL, if_pos rfl, show 1 - i % 2 = (i + 1) % 2 by omega]) | (rw [whoT, hcL] <;> rfl)), trivial⟩, (subL_cat ⟨rfl, rfl, rfl, rfl, rfl, rfl, rfl, trivial⟩ (bag_sub (by repeat (first | exact bag_nil | exact bag_lab _ | apply bag_skip rfl))))⟩
      · simp only [catE, catL]
        refine Qs<|Qs<|Qp<|(Qm)<|(QC (hT.2 i (by omega)))<|(Qm)<|Qn<|Qb ?_
        refine e_loopB [(1, _), (2, _), (3, _), (5, _), (7, _), (8, _), (13, _), (15, _), (32, _), (63, _), (64, _), (65, _), (76, _), (77, _)] [(0, _), (3, _)] (fun kk E m fy => ∃ (j : Nat) (vm4 : Value) (om4 : Option Blk) (cc : Array Value) (oc : Option Blk), kk = (ts.getD i []).length - j ∧ E = [(9, ii ((WS.upTo (decide (0 < ps.length)) late ⟨[], if 0 < ps.length then earlyT p0 p1 else [], 0⟩ ts i).turn (decide (0 < ps.length)) (whoT late i) ((ts.getD i []).take j)).used), (78, ii j)] ∧ m = [(1, om4), (2, (some ⟨r3, #[vm4], 27⟩)), (4, (some ⟨r5, cc, 27⟩)), (50, oc), (60, none)] ∧ (j ≤ (ts.getD i []).length) ∧ (OwnS 39 4 vm4 ((WS.upTo (decide (0 < ps.length)) late ⟨[], if 0 < ps.length then earlyT p0 p1 else [], 0⟩ ts i).turn (decide (0 < ps.length)) (whoT late i) ((ts.getD i []).take j)).mixed.length (lfC ((WS.upTo (decide (0 < ps.length)) late ⟨[], if 0 < ps.length then earlyT p0 p1 else [], 0⟩ ts i).turn (decide (0 < ps.length)) (whoT late i) ((ts.getD i []).take j)).mixed) (Option.toList om4)) ∧ (OutIs 39 fy ((WS.upTo (decide (0 < ps.length)) late ⟨[], if 0 < ps.length then earlyT p0 p1 else [], 0⟩ ts i).turn (decide (0 < ps.length)) (whoT late i) ((ts.getD i []).take j)).told cc oc)) (k := (ts.getD i []).length - 0) (E0 := [(9, ii ((WS.upTo (decide (0 < ps.length)) late ⟨[], if 0 < ps.length then earlyT p0 p1 else [], 0⟩ ts i).turn (decide (0 < ps.length)) (whoT late i) ((ts.getD i []).take 0)).used), (78, ii 0)]) (M0 := [(1, om3), (2, (some ⟨r3, #[vm3], 27⟩)), (4, (some ⟨r5, co, 27⟩)), (50, oo), (60, none)]) (fz := fz) ⟨0, vm3, om3, co, oo, rfl, rfl, rfl, by omega, hf2_1, hf2_2⟩ ⟨rfl, rfl, rfl, rfl, rfl, rfl, rfl, rfl, rfl, rfl, rfl, rfl, rfl, rfl, rfl, rfl, trivial⟩ ⟨rfl, rfl, rfl, rfl, rfl, rfl, rfl, trivial⟩ (by repeat (first | exact bag_nil | exact bag_lab _ | apply bag_skip rfl)) ?_
        rintro kk E m fy ⟨j, vm4, om4, cc, oc, rfl, rfl, rfl, hf3_0, hf3_1, hf3_2⟩
        simp only [catE, catL]
        have hgj := hgi.turn (sec := (decide (0 < ps.length))) (side := whoT late i) ((ts.getD i []).take j)
        have hlf := leaf_turn (sec := (decide (0 < ps.length))) (side := whoT late i) ((ts.getD i []).take j) (leaf_upTo (sec := (decide (0 < ps.length))) (late := late) (s := ⟨[], if 0 < ps.length then earlyT p0 p1 else [], 0⟩) (ts := ts) hl0 i)
        obtain ⟨U, hU⟩ : ∃ U, U = ((WS.upTo (decide (0 < ps.length)) late ⟨[], if 0 < ps.length then earlyT p0 p1 else [], 0⟩ ts i).turn (decide (0 < ps.length)) (whoT late i) ((ts.getD i []).take j)) := ⟨_, rfl⟩
        rw [← hU] at hf3_1 hf3_2 hgj hlf ⊢
        obtain ⟨vo, xo, rfl, g1, g2⟩ := hf3_2
        have htj : ((ts.getD i []).take j).length ≤ 6 := by rw [List.length_take]; have := h6 i (by omega); omega
        have h6j := h6 i (by omega)
        have hkb : j < (ts.getD i []).length → _ := fun h => pf_toks hpf (show i < ts.length by omega) h
        have ht1 := hgj.tlen
        have ht2 := hgj.mlen
        have ht3 := hgj.ulen
        refine Qs<|Qp<|(Ql)<|Qn<|Qs ?_
        refine e_cond rfl ?_ ?_
        · intro hc7
          have hc7 : j < (ts.getD i []).length := by have := of_decide_eq_true hc7; omega
          refine Qk<|Qs<|Qb<|Qs<|Qp ?_
          refine e_atV (hT.2 i (by omega)) (Uu 22) (Uz 3) rfl rfl (by omega) rfl ?_
          refine (QS) ?_
          refine e_loadV (hT.2 i (by omega)) seenG (Uu 3) rfl rfl (iv_at (by omega)) rfl ?_
          refine (Qa)<|Qn<|Qs<|Qp<|(Qm)<|Qn<|Qb<|Qs<|Qp<|(Qc)<|(Qa)<|Qn ?_
          refine e_cond rfl ?_ ?_
          · intro hc8
            have k1 := of_decide_eq_true hc8
            have hs9 := say_e (sec := (decide (0 < ps.length))) (side := whoT late i) (s := U) k1
            have ht9 : (U.say (decide (0 < ps.length)) (whoT late i) ((ts.getD i []).getD j 0)).told = U.told ++ [(pubT ((3 + whoT late i : Nat) : Int))] := by rw [hs9] <;> rfl
            have hu9 : (U.say (decide (0 < ps.length)) (whoT late i) ((ts.getD i []).getD j 0)).used = U.used := by rw [hs9] <;> rfl
            refine Qs<|(Qq ⟨[], 1, [], none, (some (7, r5))⟩) ?_
            refine e_load1 (i := 4) (Uu 27) rfl rfl rfl (show _ = some _ from rfl) rfl ⟨[], trivial⟩ ?_
            refine (Qm) ?_
            refine e_add_i (p := 3) rfl rfl rfl (by omega) ?_
            refine e_call rfl (Un 16) (dpub_fn ((3 + whoT late i : Nat) : Int)) rfl rfl ?_
            refine (QC g1.shows) ?_
            refine e_buildSl 5 #[iv 0, iv 0, iv 0, nilS] (Uu 27 rfl) (Uz 39 rfl) (Ub 39 rfl) (by decide) (by decide) rfl (by kernel_rfl) rfl fun r6 => ?_
            refine e_append 50 g1 (shows_new _ _ (by rfl)) rfl (seen1 5 rfl ⟨[], trivial⟩) (Uu 27) (Uz 39) (Uy 39) (Ub 39) (by rfl) rfl rfl (by decide) (by simp only [maxLen]; omega) (by omega) rfl fun v8_1 oz8_1 ho8_1 => ?_
            refine e_atV ho8_1.shows (Uu 27) (Uz 39) rfl rfl (by omega) rfl ?_
            refine e_stOwnS (i := 50) ho8_1 (Uz 39) rfl rfl (arrv_size _ _) (cells_one ⟨fun _ => rfl, fun _ => rfl, fun _ => rfl, fun _ => rfl, trivial⟩) rfl (by omega) rfl (fun oz8_2 ho8_2 => ?_) (y_off 4 rfl (by decide) rfl (by decide))
            refine e_store1 (i := 4) (Uz 27) rfl rfl (shows_oneC (OwnS.shows (own_fill g2.1 rfl ho8_2))) rfl rfl (hid_var rfl rfl) ?_ (y_var rfl rfl)
            refine Qn ?_
            have ho9 := own_app (L := U.told) (pubT ((3 + whoT late i : Nat) : Int)) (own_fill g2.1 rfl ho8_2)
            have hq9 := g2.app (to_one (G := fy) (t := (pubT ((3 + whoT late i : Nat) : Int))) tl_nil)
            refine Qs<|Qp<|(Qf 2)<|(QV 2 0)<|(QC hvp)<|(QG) ?_
            refine e_as (congrArg Value.bool (dec_pos ps.length)) ?_
            refine Qn ?_
            refine e_cond rfl ?_ ?_
            · intro hc9
              have hm9 : (U.say (decide (0 < ps.length)) (whoT late i) ((ts.getD i []).getD j 0)).mixed = U.mixed ++ [(pubT ((3 + whoT late i : Nat) : Int))] := (congrArg WS.mixed hs9).trans (if_pos hc9)
              refine (Qq ⟨[], 1, [], none, (some (5, r3))⟩) ?_
              refine e_load1 (i := 2) (Uu 27) rfl rfl rfl (show _ = some _ from rfl) rfl ⟨[], trivial⟩ ?_
              refine (Qm) ?_
              refine e_add_i (p := 3) rfl rfl rfl (by omega) ?_
              refine e_call rfl (Un 16) (dpub_fn ((3 + whoT late i : Nat) : Int)) rfl rfl ?_
              refine (QC hf3_1.shows) ?_
              refine e_buildSl 6 #[iv 0, iv 0, iv 0, nilS] (Uu 27 rfl) (Uz 39 rfl) (Ub 39 rfl) (by decide) (by decide) rfl (by kernel_rfl) rfl fun r7 => ?_
              refine e_append 1 hf3_1 (shows_new _ _ (by rfl)) rfl (seen1 6 rfl ⟨[], trivial⟩) (Uu 27) (Uz 39) (Uy 39) (Ub 39) (by rfl) rfl rfl (by decide) (by simp only [maxLen]; omega) (by omega) rfl fun v9_3 oz9_3 ho9_3 => ?_
              refine e_atV ho9_3.shows (Uu 27) (Uz 39) rfl rfl (by omega) rfl ?_
              refine e_stOwnS (i := 1) ho9_3 (Uz 39) rfl rfl (arrv_size _ _) (cells_one ⟨fun _ => rfl, fun _ => rfl, fun _ => rfl, fun _ => rfl, trivial⟩) rfl (by omega) rfl (fun oz9_4 ho9_4 => ?_) (y_off 2 rfl (by decide) rfl (by decide))
              refine e_store1 (i := 2) (Uz 27) rfl rfl (shows_oneC (OwnS.shows (own_fill (lfC_len _) rfl ho9_4))) rfl rfl (hid_var rfl rfl) ?_ (y_var rfl rfl)
              refine Qn ?_
              have hx9 := own_app (L := U.mixed) (pubT ((3 + whoT late i : Nat) : Int)) (own_fill (lfC_len _) rfl ho9_4)
              refine Qp<|(Q2 1)<|(Qm)<|Qn ?_
              refine e_round (E'' := [(9, ii ((WS.upTo (decide (0 < ps.length)) late ⟨[], if 0 < ps.length then earlyT p0 p1 else [], 0⟩ ts i).turn (decide (0 < ps.length)) (whoT late i) ((ts.getD i []).take (j + 1))).used), (78, ii (j + 1))]) (M'' := [(1, _), (2, (some ⟨r3, #[_], 27⟩)), (4, (some ⟨r5, _, 27⟩)), (50, _), (60, none)]) (fz' := fy) ⟨j + 1, _, _, _, _, rfl, rfl, rfl, by omega, (by rw [turn_next _ _ _ (by assumption), ← hU]; first | exact own_fix hx9 (by rw [hm9]) (by rw [hm9, lfC_snoc]) | exact own_fix hf3_1 (by rw [hm9]) (by rw [hm9])), (by rw [turn_next _ _ _ (by assumption), ← hU]; first | (rw [ht9]; exact ⟨_, _, rfl, ho9, hq9⟩) | (rw [ht9]; exact hSs.mono in2) | (rw [ht9]; exact ⟨_, _, rfl, g1, g2⟩))⟩ ⟨(by rw [turn_next _ _ _ (by assumption), ← hU, hu9] <;> rfl), rfl, rfl, rfl, rfl, rfl, rfl, rfl, rfl, rfl, rfl, rfl, rfl, rfl, rfl, rfl, trivial⟩ ⟨rfl, rfl, rfl, rfl, rfl, rfl, rfl, trivial⟩ (by repeat (first | exact bag_nil | exact bag_lab _ | apply bag_skip rfl)) (by omega)
            · intro hc9
              have hm9 : (U.say (decide (0 < ps.length)) (whoT late i) ((ts.getD i []).getD j 0)).mixed = U.mixed := (congrArg WS.mixed hs9).trans (if_neg (by rw [hc9]; decide))
              refine Qk<|Qp<|(Q2 1)<|(Qm)<|Qn ?_
              refine e_round (E'' := [(9, ii ((WS.upTo (decide (0 < ps.length)) late ⟨[], if 0 < ps.length then earlyT p0 p1 else [], 0⟩ ts i).turn (decide (0 < ps.length)) (whoT late i) ((ts.getD i []).take (j + 1))).used), (78, ii (j + 1))]) (M'' := [(1, _), (2, (some ⟨r3, #[_], 27⟩)), (4, (some ⟨r5, _, 27⟩)), (50, _), (60, none)]) (fz' := fy) ⟨j + 1, _, _, _, _, rfl, rfl, rfl, by omega, (by rw [turn_next _ _ _ (by assumption), ← hU]; first | exact own_fix hx9 (by rw [hm9]) (by rw [hm9, lfC_snoc]) | exact own_fix hf3_1 (by rw [hm9]) (by rw [hm9])), (by rw [turn_next _ _ _ (by assumption), ← hU]; first | (rw [ht9]; exact ⟨_, _, rfl, ho9, hq9⟩) | (rw [ht9]; exact hSs.mono in2) | (rw [ht9]; exact ⟨_, _, rfl, g1, g2⟩))⟩ ⟨(by rw [turn_next _ _ _ (by assumption), ← hU, hu9] <;> rfl), rfl, rfl, rfl, rfl, rfl, rfl, rfl, rfl, rfl, rfl, rfl, rfl, rfl, rfl, rfl, trivial⟩ ⟨rfl, rfl, rfl, rfl, rfl, rfl, rfl, trivial⟩ (by repeat (first | exact bag_nil | exact bag_lab _ | apply bag_skip rfl)) (by omega)
          · intro hc8
            have k1 := of_decide_eq_false hc8
            refine Qs<|Qp<|(Qc)<|(Qa)<|Qn ?_
            refine e_cond rfl ?_ ?_
            · intro hc10
              have k2 := of_decide_eq_true hc10
              have hs9 := say_s (sec := (decide (0 < ps.length))) (side := whoT late i) (s := U) k1 k2
              have ht9 : (U.say (decide (0 < ps.length)) (whoT late i) ((ts.getD i []).getD j 0)).told = U.told ++ [lockedT U (pubT ((1 + whoT late i : Nat) : Int))] := by rw [hs9] <;> rfl
              have hu9 : (U.say (decide (0 < ps.length)) (whoT late i) ((ts.getD i []).getD j 0)).used = U.used := by rw [hs9] <;> rfl
              have hm9 : (U.say (decide (0 < ps.length)) (whoT late i) ((ts.getD i []).getD j 0)).mixed = U.mixed := by rw [hs9] <;> rfl
              refine QR ⟨[], 5, [], none, none⟩<|(Qm)<|(Qm) ?_
              refine e_add_i (p := 1) rfl rfl rfl (by omega) ?_
              refine e_call rfl (Un 16) (dpub_fn ((1 + whoT late i : Nat) : Int)) rfl rfl ?_
              refine e_call3 4 50 60 [(0, _), (1, _), (2, _), (3, _)] (by repeat (first | exact bag_nil | exact bag_lab _ | apply bag_skip rfl)) ⟨rfl, rfl, rfl, rfl, trivial⟩ rfl ⟨⟨rfl, rfl⟩, rfl⟩ (by decide) rfl rfl (Un 15) rfl rfl rfl (off3_cons 2 rfl (by decide) (off3_cons 3 rfl (by decide) (off3_opt 1 rfl (by decide) (fun z hz => bag_off3 (G := G) (by repeat (first | exact bag_nil | exact bag_lab _ | apply bag_skip rfl)) (by decide) (by decide) (by decide) z (List.mem_append_left _ hz))))) (fun hnd => dtell_fn (G := fy) r3 r4 r5 om4.toList _ vm4 _ hf3_1.shows (lf_to _ hlf) hgj.mixed (by have := hgj.mlen; omega) _ vo xo oc g1 g2 (by have := hgj.tlen; omega) (pubT ((1 + whoT late i : Nat) : Int)) nilS [] tl_nil hnd) (fun m' => out_room 39 _ _ (all_snoc hgj.told (form_locked (s := ⟨_, _, 0⟩) (n := 1000) ⟨hgj.told, hgj.mixed, by show U.told.length ≤ 1000; omega, by show U.mixed.length ≤ 1000; omega, Nat.zero_le _⟩ (by first | exact form_pu (by omega) | exact form_at (by omega)))) (by rw [List.length_append, List.length_singleton]; have := hgj.tlen; simp only [maxLen]; omega) m') rfl rfl fun cs oas obs nfs hSs his => ?_
              simp only [catL]
              obtain ⟨hSs, rfl⟩ := hSs
              refine Qn<|Qp<|(Q2 1)<|(Qm)<|Qn ?_
              refine e_round (E'' := [(9, ii ((WS.upTo (decide (0 < ps.length)) late ⟨[], if 0 < ps.length then earlyT p0 p1 else [], 0⟩ ts i).turn (decide (0 < ps.length)) (whoT late i) ((ts.getD i []).take (j + 1))).used), (78, ii (j + 1))]) (M'' := [(1, _), (2, (some ⟨r3, #[_], 27⟩)), (4, (some ⟨r5, _, 27⟩)), (50, _), (60, none)]) (fz' := (fy ++ nfs)) ⟨j + 1, _, _, _, _, rfl, rfl, rfl, by omega, (by rw [turn_next _ _ _ (by assumption), ← hU]; first | exact own_fix hx9 (by rw [hm9]) (by rw [hm9, lfC_snoc]) | exact own_fix hf3_1 (by rw [hm9]) (by rw [hm9])), (by rw [turn_next _ _ _ (by assumption), ← hU]; first | (rw [ht9]; exact ⟨_, _, rfl, ho9, hq9⟩) | (rw [ht9]; exact hSs.mono in2) | (rw [ht9]; exact ⟨_, _, rfl, g1, g2⟩))⟩ ⟨(by rw [turn_next _ _ _ (by assumption), ← hU, hu9] <;> rfl), rfl, rfl, rfl, rfl, rfl, rfl, rfl, rfl, rfl, rfl, rfl, rfl, rfl, rfl, rfl, trivial⟩ ⟨rfl, rfl, rfl, rfl, rfl, rfl, rfl, trivial⟩ (by repeat (first | exact bag_nil | exact bag_lab _ | apply bag_skip rfl)) (by omega)
            · intro hc10
              have k2 := of_decide_eq_false hc10
              refine Qs<|Qp<|(Qc)<|(Qa)<|Qn ?_
              refine e_cond rfl ?_ ?_
              · intro hc11
                have k7 := of_decide_eq_true hc11
                have hs9 := say_p (sec := (decide (0 < ps.length))) (side := whoT late i) (s := U) k1 k2 k7
                have ht9 : (U.say (decide (0 < ps.length)) (whoT late i) ((ts.getD i []).getD j 0)).told = U.told := by rw [hs9] <;> rfl
                have hu9 : (U.say (decide (0 < ps.length)) (whoT late i) ((ts.getD i []).getD j 0)).used = U.used + 1 := by rw [hs9] <;> rfl
                have hm9 : (U.say (decide (0 < ps.length)) (whoT late i) ((ts.getD i []).getD j 0)).mixed = U.mixed ++ [atomT ((10 + U.used : Nat) : Int)] := by rw [hs9] <;> rfl
                refine Qs<|(Qq ⟨[], 1, [], none, (some (5, r3))⟩) ?_
                refine e_load1 (i := 2) (Uu 27) rfl rfl rfl (show _ = some _ from rfl) rfl ⟨[], trivial⟩ ?_
                refine (Qm) ?_
                refine e_add_i (p := 10) rfl rfl rfl (by omega) ?_
                refine e_call rfl (Un 14) (datom_fn ((10 + U.used : Nat) : Int)) rfl rfl ?_
                refine (QC hf3_1.shows) ?_
                refine e_buildSl 5 #[iv 0, iv 0, iv 0, nilS] (Uu 27 rfl) (Uz 39 rfl) (Ub 39 rfl) (by decide) (by decide) rfl (by kernel_rfl) rfl fun r6 => ?_
                refine e_append 1 hf3_1 (shows_new _ _ (by rfl)) rfl (seen1 5 rfl ⟨[], trivial⟩) (Uu 27) (Uz 39) (Uy 39) (Ub 39) (by rfl) rfl rfl (by decide) (by simp only [maxLen]; omega) (by omega) rfl fun v10_1 oz10_1 ho10_1 => ?_
                refine e_atV ho10_1.shows (Uu 27) (Uz 39) rfl rfl (by omega) rfl ?_
                refine e_stOwnS (i := 1) ho10_1 (Uz 39) rfl rfl (arrv_size _ _) (cells_one ⟨fun _ => rfl, fun _ => rfl, fun _ => rfl, fun _ => rfl, trivial⟩) rfl (by omega) rfl (fun oz10_2 ho10_2 => ?_) (y_off 2 rfl (by decide) rfl (by decide))
                refine e_store1 (i := 2) (Uz 27) rfl rfl (shows_oneC (OwnS.shows (own_fill (lfC_len _) rfl ho10_2))) rfl rfl (hid_var rfl rfl) ?_ (y_var rfl rfl)
                refine Qn ?_
                have hx9 := own_app (L := U.mixed) (atomT ((10 + U.used : Nat) : Int)) (own_fill (lfC_len _) rfl ho10_2)
                refine Qp<|(Qm)<|(Q2 1)<|(Qa)<|Qn<|Qp<|(Q2 1)<|(Qm)<|Qn ?_
                refine e_round (E'' := [(9, ii ((WS.upTo (decide (0 < ps.length)) late ⟨[], if 0 < ps.length then earlyT p0 p1 else [], 0⟩ ts i).turn (decide (0 < ps.length)) (whoT late i) ((ts.getD i []).take (j + 1))).used), (78, ii (j + 1))]) (M'' := [(1, _), (2, (some ⟨r3, #[_], 27⟩)), (4, (some ⟨r5, _, 27⟩)), (50, _), (60, none)]) (fz' := fy) ⟨j + 1, _, _, _, _, rfl, rfl, rfl, by omega, (by rw [turn_next _ _ _ (by assumption), ← hU]; first | exact own_fix hx9 (by rw [hm9]) (by rw [hm9, lfC_snoc]) | exact own_fix hf3_1 (by rw [hm9]) (by rw [hm9])), (by rw [turn_next _ _ _ (by assumption), ← hU]; first | (rw [ht9]; exact ⟨_, _, rfl, ho9, hq9⟩) | (rw [ht9]; exact hSs.mono in2) | (rw [ht9]; exact ⟨_, _, rfl, g1, g2⟩))⟩ ⟨(by rw [turn_next _ _ _ (by assumption), ← hU, hu9] <;> rfl), rfl, rfl, rfl, rfl, rfl, rfl, rfl, rfl, rfl, rfl, rfl, rfl, rfl, rfl, rfl, trivial⟩ ⟨rfl, rfl, rfl, rfl, rfl, rfl, rfl, trivial⟩ (by repeat (first | exact bag_nil | exact bag_lab _ | apply bag_skip rfl)) (by omega)
              · intro hc11
                have k7 := of_decide_eq_false hc11
                have hs9 := say_m (sec := (decide (0 < ps.length))) (side := whoT late i) (s := U) k1 k2 k7
                have ht9 : (U.say (decide (0 < ps.length)) (whoT late i) ((ts.getD i []).getD j 0)).told = U.told := by rw [hs9] <;> rfl
                have hu9 : (U.say (decide (0 < ps.length)) (whoT late i) ((ts.getD i []).getD j 0)).used = U.used := by rw [hs9] <;> rfl
                have hm9 : (U.say (decide (0 < ps.length)) (whoT late i) ((ts.getD i []).getD j 0)).mixed = U.mixed ++ [agT ((ts.getD i []).getD j 0)] := by rw [hs9] <;> rfl
                have hk3 : 3 ≤ ((ts.getD i []).getD j 0) := by have := hkb (by assumption); omega
                have hk6 : ((ts.getD i []).getD j 0) ≤ 6 := by have := hkb (by assumption); omega
                have hkn : ((ts.getD i []).getD j 0) = ((((ts.getD i []).getD j 0).toNat : Nat) : Int) := (Int.toNat_of_nonneg (by omega)).symm
                have hki : ((ts.getD i []).getD j 0).toNat < 7 := by omega
                refine Qs<|Qp ?_
                refine e_buildSl 5 ([0, 0, 0, 3, 3, 1, 1].map fun n : Nat => ii n).toArray (Uu 22 rfl) (Uz 3 rfl) (Ub 3 rfl) (by decide) (by decide) rfl (by kernel_rfl) rfl fun r6 => ?_
                refine (Qm) ?_
                refine e_as (congrArg iv hkn) ?_
                refine e_atV (shows_new (z := 1) (len := 7) ([0, 0, 0, 3, 3, 1, 1].map fun n : Nat => ii n).toArray 3 (by rfl)) (Uu 22) (Uz 3) rfl rfl (by omega) rfl ?_
                refine (QS) ?_
                refine e_loadV (shows_new (z := 1) (len := 7) ([0, 0, 0, 3, 3, 1, 1].map fun n : Nat => ii n).toArray 3 (by rfl)) (seen1 5 rfl ⟨[], trivial⟩) (Uu 3) rfl rfl (agF_at hk3 hk6) rfl ?_
                refine (Qa)<|Qn<|Qs<|Qp ?_
                refine e_buildSl 6 ([0, 0, 0, 4, 2, 4, 2].map fun n : Nat => ii n).toArray (Uu 22 rfl) (Uz 3 rfl) (Ub 3 rfl) (by decide) (by decide) rfl (by kernel_rfl) rfl fun r7 => ?_
                refine (Qm) ?_
                refine e_as (congrArg iv hkn) ?_
                refine e_atV (shows_new (z := 1) (len := 7) ([0, 0, 0, 4, 2, 4, 2].map fun n : Nat => ii n).toArray 3 (by rfl)) (Uu 22) (Uz 3) rfl rfl (by omega) rfl ?_
                refine (QS) ?_
                refine e_loadV (shows_new (z := 1) (len := 7) ([0, 0, 0, 4, 2, 4, 2].map fun n : Nat => ii n).toArray 3 (by rfl)) (seen1 6 rfl ⟨[], trivial⟩) (Uu 3) rfl rfl (agO_at hk3 hk6) rfl ?_
                refine (Qa)<|Qn<|(Qq ⟨[], 1, [], none, (some (5, r3))⟩) ?_
                refine e_load1 (i := 2) (Uu 27) rfl rfl rfl (show _ = some _ from rfl) rfl ⟨[], trivial⟩ ?_
                refine (Qm)<|(Qm) ?_
                refine e_min rfl rfl rfl rfl ?_
                refine (Qm)<|(Qm) ?_
                refine e_max rfl rfl rfl rfl ?_
                refine e_buildS (tC (agT ((ts.getD i []).getD j 0)) nilS) (Ub 39 rfl) (Uu 39 rfl) pls39 rfl (by kernel_rfl) rfl ?_
                refine (QC hf3_1.shows) ?_
                refine e_buildSl 7 #[iv 0, iv 0, iv 0, nilS] (Uu 27 rfl) (Uz 39 rfl) (Ub 39 rfl) (by decide) (by decide) rfl (by kernel_rfl) rfl fun r8 => ?_
                refine e_append 1 hf3_1 (shows_new _ _ (by rfl)) rfl (seen1 7 rfl ⟨[], trivial⟩) (Uu 27) (Uz 39) (Uy 39) (Ub 39) (by rfl) rfl rfl (by decide) (by simp only [maxLen]; omega) (by omega) rfl fun v10_1 oz10_1 ho10_1 => ?_
                refine e_atV ho10_1.shows (Uu 27) (Uz 39) rfl rfl (by omega) rfl ?_
                refine e_stOwnS (i := 1) ho10_1 (Uz 39) rfl rfl (arrv_size _ _) (cells_one ⟨fun _ => rfl, fun _ => rfl, fun _ => rfl, fun _ => rfl, trivial⟩) rfl (by omega) rfl (fun oz10_2 ho10_2 => ?_) (y_off 2 rfl (by decide) rfl (by decide))
                refine e_store1 (i := 2) (Uz 27) rfl rfl (shows_oneC (OwnS.shows (own_fill (lfC_len _) rfl ho10_2))) rfl rfl (hid_var rfl rfl) ?_ (y_var rfl rfl)
                refine Qn ?_
                have hx9 := own_app (L := U.mixed) (agT ((ts.getD i []).getD j 0)) (own_fill (lfC_len _) rfl ho10_2)
                refine Qp<|(Q2 1)<|(Qm)<|Qn ?_
                refine e_round (E'' := [(9, ii ((WS.upTo (decide (0 < ps.length)) late ⟨[], if 0 < ps.length then earlyT p0 p1 else [], 0⟩ ts i).turn (decide (0 < ps.length)) (whoT late i) ((ts.getD i []).take (j + 1))).used), (78, ii (j + 1))]) (M'' := [(1, _), (2, (some ⟨r3, #[_], 27⟩)), (4, (some ⟨r5, _, 27⟩)), (50, _), (60, none)]) (fz' := fy) ⟨j + 1, _, _, _, _, rfl, rfl, rfl, by omega, (by rw [turn_next _ _ _ (by assumption), ← hU]; first | exact own_fix hx9 (by rw [hm9]) (by rw [hm9, lfC_snoc]) | exact own_fix hf3_1 (by rw [hm9]) (by rw [hm9])), (by rw [turn_next _ _ _ (by assumption), ← hU]; first | (rw [ht9]; exact ⟨_, _, rfl, ho9, hq9⟩) | (rw [ht9]; exact hSs.mono in2) | (rw [ht9]; exact ⟨_, _, rfl, g1, g2⟩))⟩ ⟨(by rw [turn_next _ _ _ (by assumption), ← hU, hu9] <;> rfl), rfl, rfl, rfl, rfl, rfl, rfl, rfl, rfl, rfl, rfl, rfl, rfl, rfl, rfl, rfl, trivial⟩ ⟨rfl, rfl, rfl, rfl, rfl, rfl, rfl, trivial⟩ (by repeat (first | exact bag_nil | exact bag_lab _ | apply bag_skip rfl)) (by omega)
        · intro hc7
          have hc7 := of_decide_eq_false hc7
          have hz3 : j = (ts.getD i []).length := by omega
          refine Qe<|QR ⟨[], 5, [], none, none⟩<|(Qm)<|(Qm) ?_
          refine e_add_i (p := 20) rfl rfl rfl (by omega) ?_
          refine e_call rfl (Un 14) (datom_fn ((20 + i : Nat) : Int)) rfl rfl ?_
          refine e_call3 4 50 60 [(0, _), (1, _), (2, _), (3, _)] (by repeat (first | exact bag_nil | exact bag_lab _ | apply bag_skip rfl)) ⟨rfl, rfl, rfl, rfl, trivial⟩ rfl ⟨⟨rfl, rfl⟩, rfl⟩ (by decide) rfl rfl (Un 15) rfl rfl rfl (off3_cons 2 rfl (by decide) (off3_cons 3 rfl (by decide) (off3_opt 1 rfl (by decide) (fun z hz => bag_off3 (G := G) (by repeat (first | exact bag_nil | exact bag_lab _ | apply bag_skip rfl)) (by decide) (by decide) (by decide) z (List.mem_append_left _ hz))))) (fun hnd => dtell_fn (G := fy) r3 r4 r5 om4.toList _ vm4 _ hf3_1.shows (lf_to _ hlf) hgj.mixed (by have := hgj.mlen; omega) _ vo xo oc g1 g2 (by have := hgj.tlen; omega) (atomT ((20 + i : Nat) : Int)) nilS [] tl_nil hnd) (fun m' => out_room 39 _ _ (all_snoc hgj.told (form_locked (s := ⟨_, _, 0⟩) (n := 1000) ⟨hgj.told, hgj.mixed, by show U.told.length ≤ 1000; omega, by show U.mixed.length ≤ 1000; omega, Nat.zero_le _⟩ (by first | exact form_pu (by omega) | exact form_at (by omega)))) (by rw [List.length_append, List.length_singleton]; have := hgj.tlen; simp only [maxLen]; omega) m') rfl rfl fun ct oat obt nft hSt hit => ?_
          simp only [catL]
          obtain ⟨hSt, rfl⟩ := hSt
          refine Qn<|Qp<|(Q2 1)<|(Qm)<|Qn ?_
          refine e_round (E'' := [(9, ii (WS.upTo (decide (0 < ps.length)) late ⟨[], if 0 < ps.length then earlyT p0 p1 else [], 0⟩ ts (i + 1)).used), (65, ii (i + 1))]) (M'' := [(1, _), (2, (some ⟨r3, #[_], 27⟩)), (4, (some ⟨r5, _, 27⟩)), (50, _), (60, none)]) (fz' := (fy ++ nft)) ⟨i + 1, _, _, _, _, rfl, rfl, rfl, by omega, (own_fix hf3_1 (by rw [upTo_mix hz3, ← hU]) (by rw [upTo_mix hz3, ← hU])), (out_step hz3 (by rw [← hU]; exact hSt.mono in2))⟩ ⟨(by rw [upTo_use hz3, ← hU] <;> rfl), rfl, rfl, rfl, rfl, rfl, rfl, rfl, rfl, rfl, rfl, trivial⟩ ⟨rfl, rfl, rfl, rfl, rfl, rfl, rfl, trivial⟩ (by repeat (first | exact bag_nil | exact bag_lab _ | apply bag_skip rfl)) (by omega)
    · intro hc5
      have hc5 := of_decide_eq_false hc5
      have hz2 : i = tvs.length := by omega
      obtain ⟨vo, xo, rfl, g1, g2⟩ := hf2_2
      refine Qe<|Qs<|Qp ?_
      refine e_load1 (i := 4) (Uu 27) rfl rfl rfl (show _ = some _ from rfl) rfl ⟨[], trivial⟩ ?_
      refine e_freeze 50 [(0, _), (1, _), (2, _), (3, _), (4, _), (60, _)] rfl rfl (by repeat (first | exact bag_nil | exact bag_lab _ | apply bag_skip rfl)) ⟨rfl, rfl, rfl, rfl, rfl, rfl, trivial⟩ rfl rfl ?_
      simp only [catL]
      refine (Qa)<|(Qa)<|Qn<|Qr ?_
      exact ⟨_, _, _, _, (fz ++ oo.toList), rfl, .tmp rfl, .tmp rfl, (by obtain ⟨x9, h9⟩ := tW_end (hz2.trans htl) g1 g2 (by have := (hG.upTo h6 (sec := (decide (0 < ps.length))) (late := late) (s := ⟨[], if 0 < ps.length then earlyT p0 p1 else [], 0⟩) i (by omega)).tlen; simp only [maxLen]; omega); exact ⟨_, x9, rfl, h9⟩), (by repeat (first | exact bag_nil | exact bag_lab _ | apply bag_skip rfl))⟩
end Go.Proofs.Ytfldnikepdbgkaa
namespace Go.Proofs.Ytfldnikepdbgkaa
open Go Go.RowKit
variable {G : Mem}
set_option maxHeartbeats 4000000 in
theorem wmix_fn (b : Nat) (sec : Bool) (s : WS) (n : Nat) (hs : s.Good n) (hn : n ≤ 1000) (v1 v2 : Value) (xs1 xs2 : List Value) (oa ob : Option Blk) (h1 : OwnS 39 4 v1 s.told.length xs1 oa.toList) (h2 : TO G s.told xs1) (h3 : OwnS 39 4 v2 s.mixed.length xs2 ob.toList) (h4 : TO G s.mixed xs2) (hnd : (((⟨b, wC sec v1 v2 s.used, 50⟩ : Blk) :: (oa.toList ++ ob.toList) : Mem).map (·.b)).Nodup) (t : TT) (c : Value) (ys : List Value) (hT : TL G t.args c ys) : Fx Try.prog G ((⟨b, wC sec v1 v2 s.used, 50⟩ : Blk) :: (oa.toList ++ ob.toList)) 53 #[ptr b, .agg (tC t c)] (Three b 50 oa ob (fun c' o1 o2 fz => WireIs 39 (fz ++ G) sec (s.mix t) c' o1 o2)) := by
  have hl1 := hs.tlen
  have hl2 := hs.mlen
  have hl3 := hs.ulen
  have hco := shows_oneC hT.2.1
  refine fxW3 (n := 15) Try.func53 rfl rfl (by simp) (argE [ptr b, .agg (tC t c)] 0) (argE_ok _) hnd ?_
  refine Qs<|Qp<|(Qh 3) fun r4=>Qn<|(Qq ⟨[], 1, [], none, (some (14, b))⟩)<|(Qm) ?_
  refine e_nilCheck rfl rfl ?_
  refine (Qf 2)<|(QV 2 0)<|(QD 3)<|(QC h3.shows) ?_
  refine e_buildSl 4 #[iv 0, iv 0, iv 0, nilS] (Uu 27 rfl) (Uz 39 rfl) (Ub 39 rfl) (by decide) (by decide) rfl (by kernel_rfl) rfl fun r5 => ?_
  refine e_appendJ 2 [(0, _), (1, _), (3, _), (4, _)] h3 (shows_new _ _ (by rfl)) rfl (seen1 4 rfl ⟨[], trivial⟩) (by repeat (first | exact bag_nil | exact bag_lab _ | apply bag_skip rfl)) (fun _ => ⟨rfl, rfl, rfl, rfl, trivial⟩) rfl rfl (Uu 27) (Uz 39) (Uy 39) (Ub 39) (by rfl) rfl rfl (by decide) (by simp only [maxLen]; omega) (by omega) rfl fun vq ozq jkq hoq hjq => ?_
  simp only [catL]
  refine e_atV hoq.shows (Uu 27) (Uz 39) rfl rfl (by omega) rfl ?_
  refine e_stOwnS (i := 2) hoq (Uz 39) rfl rfl (arrv_size _ _) (cells_one ⟨fun _ => rfl, fun _ => rfl, fun _ => rfl, fun _ => shows_oneC hT.2.1, trivial⟩) rfl (by omega) rfl (fun oz1_2 ho1_2 => ?_) (y_off 0 rfl (by decide) rfl (by decide))
  refine e_nilCheck rfl rfl ?_
  refine (Qf 2) ?_
  refine e_stVY (i := 0) 2 (Uz 27) rfl rfl (shows_oneC (OwnS.shows (own_fill h4.1 rfl ho1_2))) rfl rfl (by decide) (hid_var rfl rfl) ?_ (y_var rfl rfl)
  refine Qn ?_
  have hown9 := own_app (L := s.mixed) t (own_fill h4.1 rfl ho1_2)
  exact ⟨rfl, _, _, _, ([] ++ jkq), ⟨_, _, _, _, rfl, h1, h2.mono (fun z hz => List.mem_append_right _ hz), hown9, (h4.app (to_one hT)).mono (fun z hz => List.mem_append_right _ hz)⟩, rfl, rfl, rfl, (by repeat (first | exact bag_nil | exact bag_lab _ | apply bag_skip rfl)), (ids_2 (ids_own hoq hown9 hjq))⟩
end Go.Proofs.Ytfldnikepdbgkaa
namespace Go.Proofs.Ytfldnikepdbgkaa
open Go Go.RowKit
variable {G : Mem}
set_option maxHeartbeats 4000000 in
theorem wshow_fn (b : Nat) (sec : Bool) (s : WS) (n : Nat) (hs : s.Good n) (hn : n ≤ 900) (v1 v2 : Value) (xs1 xs2 : List Value) (oa ob : Option Blk) (h1 : OwnS 39 4 v1 s.told.length xs1 oa.toList) (h2 : TO G s.told xs1) (h3 : OwnS 39 4 v2 s.mixed.length xs2 ob.toList) (h4 : TO G s.mixed xs2) (hnd : (((⟨b, wC sec v1 v2 s.used, 50⟩ : Blk) :: (oa.toList ++ ob.toList) : Mem).map (·.b)).Nodup) (t : TT) (c : Value) (ys : List Value) (hT : TL G t.args c ys) (ht : t.form = 0) : Fx Try.prog G ((⟨b, wC sec v1 v2 s.used, 50⟩ : Blk) :: (oa.toList ++ ob.toList)) 52 #[ptr b, .agg (tC t c)] (Three b 50 oa ob (fun c' o1 o2 fz => WireIs 39 (fz ++ G) sec (s.show sec t) c' o1 o2)) := by
  have hl1 := hs.tlen
  have hl2 := hs.mlen
  have hl3 := hs.ulen
  have hco := shows_oneC hT.2.1
  refine fxW3 (n := 22) Try.func52 rfl rfl (by simp) (argE [ptr b, .agg (tC t c)] 0) (argE_ok _) hnd ?_
  refine Qs<|Qp<|(Qh 3) fun r4=>Qn<|Qs<|(Qq ⟨[], 1, [], none, (some (14, b))⟩)<|(Qm) ?_
  refine e_nilCheck rfl rfl ?_
  refine (Qf 1)<|(QV 1 0)<|(QD 3)<|(QC h1.shows) ?_
  refine e_buildSl 4 #[iv 0, iv 0, iv 0, nilS] (Uu 27 rfl) (Uz 39 rfl) (Ub 39 rfl) (by decide) (by decide) rfl (by kernel_rfl) rfl fun r5 => ?_
  refine e_appendJ 1 [(0, _), (2, _), (3, _), (4, _)] h1 (shows_new _ _ (by rfl)) rfl (seen1 4 rfl ⟨[], trivial⟩) (by repeat (first | exact bag_nil | exact bag_lab _ | apply bag_skip rfl)) (fun _ => ⟨rfl, rfl, rfl, rfl, trivial⟩) rfl rfl (Uu 27) (Uz 39) (Uy 39) (Ub 39) (by rfl) rfl rfl (by decide) (by simp only [maxLen]; omega) (by omega) rfl fun vq ozq jkq hoq hjq => ?_
  simp only [catL]
  refine e_atV hoq.shows (Uu 27) (Uz 39) rfl rfl (by omega) rfl ?_
  refine e_stOwnS (i := 1) hoq (Uz 39) rfl rfl (arrv_size _ _) (cells_one ⟨fun _ => rfl, fun _ => rfl, fun _ => rfl, fun _ => shows_oneC hT.2.1, trivial⟩) rfl (by omega) rfl (fun oz1_2 ho1_2 => ?_) (y_off 0 rfl (by decide) rfl (by decide))
  refine e_nilCheck rfl rfl ?_
  refine (Qf 1) ?_
  refine e_stVY (i := 0) 1 (Uz 27) rfl rfl (shows_oneC (OwnS.shows (own_fill h2.1 rfl ho1_2))) rfl rfl (by decide) (hid_var rfl rfl) ?_ (y_var rfl rfl)
  refine Qn ?_
  have hown9 := own_app (L := s.told) t (own_fill h2.1 rfl ho1_2)
  have hto9 := (h2.app (to_one hT)).mono (G' := ([] ++ jkq) ++ G) (fun z hz => List.mem_append_right _ hz)
  have hg9 : WS.Good ⟨s.told ++ [t], s.mixed, s.used⟩ (n + 1) := ⟨all_snoc hs.told ht, hs.mixed, by simp only [List.length_append, List.length_singleton]; omega, (by show s.mixed.length ≤ n + 1; omega), (by show s.used ≤ n + 1; omega)⟩
  refine Qs<|Qp<|(Qm) ?_
  refine e_nilCheck rfl rfl ?_
  refine (Qf 0)<|(QV 0 0)<|Qn ?_
  refine e_cond rfl ?_ ?_
  · intro hc0
    cases hc0
    refine QR ⟨[], 5, [], none, none⟩<|(Qm)<|(QD 3) ?_
    refine e_call3 0 1 2 [(3, _), (4, _)] (by repeat (first | exact bag_nil | exact bag_lab _ | apply bag_skip rfl)) ⟨rfl, rfl, trivial⟩ rfl ⟨⟨rfl, rfl⟩, rfl⟩ (by decide) rfl rfl (Un 53) rfl rfl rfl (bag_off3 (by repeat (first | exact bag_nil | exact bag_lab _ | apply bag_skip rfl))) (fun hnd => wmix_fn (G := ([] ++ jkq) ++ G) b _ ⟨s.told ++ [t], s.mixed, s.used⟩ (n + 1) hg9 (by omega) _ _ _ _ _ _ hown9 hto9 h3 (h4.mono (fun z hz => List.mem_append_right _ hz)) hnd t c ys (hT.mono (fun z hz => List.mem_append_right _ hz))) (fun m' => wire_room 39 _ _ _ (hg9.mix ht) (by simp only [maxLen]; omega) m') rfl rfl fun cr oar obr nfr hSr hir => ?_
    simp only [catL]
    refine Qn ?_
    exact ⟨rfl, _, _, _, (([] ++ jkq) ++ nfr), (by first | exact ⟨_, _, _, _, rfl, hown9, hto9, h3, h4.mono (fun z hz => List.mem_append_right _ hz)⟩ | exact hSr.mono in3), rfl, rfl, rfl, (by repeat (first | exact bag_nil | exact bag_lab _ | apply bag_skip rfl)), (by first | exact ids_1 (ids_own hoq hown9 hjq) | exact ids_then (ids_1 (ids_own hoq hown9 hjq)) hir)⟩
  · intro hc0
    cases hc0
    refine Qk ?_
    exact ⟨rfl, _, _, _, ([] ++ jkq), (by first | exact ⟨_, _, _, _, rfl, hown9, hto9, h3, h4.mono (fun z hz => List.mem_append_right _ hz)⟩ | exact hSr.mono in3), rfl, rfl, rfl, (by repeat (first | exact bag_nil | exact bag_lab _ | apply bag_skip rfl)), (by first | exact ids_1 (ids_own hoq hown9 hjq) | exact ids_then (ids_1 (ids_own hoq hown9 hjq)) hir)⟩
end Go.Proofs.Ytfldnikepdbgkaa
