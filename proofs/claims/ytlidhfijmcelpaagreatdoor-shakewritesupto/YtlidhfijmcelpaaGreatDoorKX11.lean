import Derived.Test.YtlidhfijmcelpaaGreatDoorKX10
set_option maxHeartbeats 16000000
set_option maxRecDepth 30000
attribute [local simp] Go.Proofs.YtlidhfijmcelpaaGreatDoor.By Go.Proofs.YtlidhfijmcelpaaGreatDoor.L8
namespace Go.Proofs.YtlidhfijmcelpaaGreatDoor
open Go Go.RowKit
variable {G : Mem}
theorem z7w (base : LN) (late : Bool) (vp v0 v1 vt : Value) (tvs : List Value) (q0 q1 : LN) (us : List (LN)) (hvt : Shows G 1 vt tvs.length tvs) (hLI : zn G (v0 :: v1 :: tvs) (ci q0 :: ci q1 :: us.map ci)) (hn1 : 1 ≤ tvs.length) (hn5 : tvs.length ≤ 5) (hf : y4 (ci q0 :: ci q1 :: us.map ci) = 0) (h06 : q0.length ≤ 6) (h16 : q1.length ≤ 6) (hu6 : ∀ u ∈ us, u.length ≤ 6) : Fp G 54 #[.agg (cells 6 [pV (sv base), pV (.bool late), pV vp, pV v0, pV v1, pV vt])] (ii (z1o (evL late q0 q1 us))) := by
 have hT := zr (zr hLI)
 have hv0 := VC hLI
 have hv1 := VC (zr hLI)
 have hvq := z2q hv0 hv1
 have htl : tvs.length = us.length := by have := hT.1; rwa [List.length_map] at this
 have hr7 := zdx (late := late) h06 h16 hu6
 obtain ⟨L, hL⟩ : ∃ L, L = evL late q0 q1 us := ⟨_, rfl⟩
 have hLl : L.length = 2 + us.length := by rw [hL]; exact z8n
 have hLa : ∀ a, a < 2 → L.getD a [] = (qq q0 q1 a).map (fun x => (a, x)) := fun a ha => by rw [hL]; exact z8x ha
 have hLt : ∀ i, i < us.length → L.getD (2 + i) [] = (us.getD i [] ++ [0]).map (fun x => (xO late i, x)) := fun i hi => by rw [hL]; exact z5E hi
 rw [← hL] at hr7 ⊢
 have hle := zeN hr7
 have hq6 : ∀ a, (qq q0 q1 a).length ≤ 6 := fun a => by unfold qq; split <;> assumption
 have hug : ∀ i, i < us.length → (us.getD i []).length ≤ 6 := fun i hi => hu6 _ (by rw [List.getD_eq_getElem?_getD, List.getElem?_eq_getElem hi]; exact List.getElem_mem hi)
 refine Qf1 Tryz.func54 ?_
 refine (g4)<|(Qh 0) fun r1=>(g3)<|(gs)<|(jd)<|(QC hvt)<|(Qc)<|(Qaf)<|(g7)<|(Qf 5)<|(Qy)<|(QV 5 0)<|(Qy)<|(QC hvt)<|(Qy)<|(QG)<|(Qaf)<|(QF)<|(go)<|(gc)<|(gs)<|(Qf 3)<|(QA 3 0)<|(QV 3 0)<|(Qf 3)<|(QA 4 1)<|(QV 4 0) ?_
 refine yj 1 #[v0, v1] (Uu 27 rfl) (Uz 25 rfl) (Ub 25 rfl) (by decide) (by decide) rfl (xE [v0, v1] 0 _ (by intro v hv; simp only [List.mem_cons, List.not_mem_nil, or_false] at hv; rcases hv with rfl | rfl; exact yk hv0; exact yk hv1) (by simp)) rfl fun r2 => ?_
 refine (jd) ?_
 refine yB 1 z93 hvt rfl ze (Uu 27) (Uz 25) (Uy 25) (Ub 25) (by rfl) rfl rfl (z03 hT) (by simp only [maxLen]; omega) (by omega) rfl fun v2_1 oz2_1 ho2_1 => ?_
 refine zg rfl rfl (Un 93) (zf (zL 1 rfl ⟨[], trivial⟩) ze) (z0I (G := oz2_1.toList ++ G) _ (v0 :: v1 :: tvs) (ci q0 :: ci q1 :: us.map ci) (Shows.mono (OwnS.shows (zy ho2_1 (show _ = (v0 :: v1 :: tvs).length by simp; omega) rfl)) (fun x h => List.mem_append_left _ h)) (yF hLI (fun x h => List.mem_append_right _ h)) (by simp; omega)) rfl rfl ?_
 refine (Ai hf)<|(jm) ?_
 refine (Ab (decide_eq_false (by decide)))<|(go)<|(ji) ?_
 refine QzK [(1, _)] [(0, _), (1, oz2_1)] (fun kk E m => ∃ (a : Nat) (w : Value) (oz : Option Blk), kk = 2 - a ∧ E = [(3, w), (39, ii a)] ∧ m = [(50, oz)] ∧ (a ≤ 2) ∧ (OwnS 141 2 w (zj L a 0).length ((zj L a 0).flatMap evC) (Option.toList oz)) ∧ (∀ s t, s < a → t < (L.getD s []).length → vQ L s t = true)) ⟨0, yg, none, rfl, rfl, rfl, by omega, (zy (wL _ _) (by rw [X1]; rfl) (by rw [X1]; rfl)), fun _ _ h => absurd h (Nat.not_lt_zero _)⟩ ⟨rfl, rfl, rfl, trivial⟩ ⟨rfl, rfl, rfl, trivial⟩ ?_
 rintro kk E m ⟨a, w, oz, rfl, rfl, rfl, hf0_0, hf0_1, hf0_2⟩
 simp only [zq, zx]
 refine (gq) ?_
 refine (Qcd) (fun hc2=>?_) fun hc2=>?_
 ·have hc2 : a < 2 := by omega
  refine (jr)<|(gm)<|(Qf 3)<|(QB (3 + a)) ?_
  refine y7 (i := 0) (Uu 25) rfl rfl rfl (zdM (by omega)) rfl ⟨[], trivial⟩ ?_
  refine (QC (hvq a (by omega)))<|(Qm)<|Qn<|Qb ?_
  refine QzK [(1, _), (5, _), (39, _), (45, _), (46, _)] [(0, _), (1, oz2_1)] (fun kk E m => ∃ (j : Nat) (w2 : Value) (oy : Option Blk), kk = (qq q0 q1 a).length - j ∧ E = [(3, w2), (47, ii j)] ∧ m = [(50, oy)] ∧ (j ≤ (qq q0 q1 a).length) ∧ (OwnS 141 2 w2 (zj L a j).length ((zj L a j).flatMap evC) (Option.toList oy)) ∧ (∀ t, t < j → vQ L a t = true)) ⟨0, w, oz, rfl, rfl, rfl, by omega, hf0_1, fun _ h => absurd h (Nat.not_lt_zero _)⟩ ⟨rfl, rfl, rfl, rfl, rfl, rfl, rfl, trivial⟩ ⟨rfl, rfl, rfl, trivial⟩ ?_
  rintro kk E m ⟨j, w2, oy, rfl, rfl, rfl, hf1_0, hf1_1, hf1_2⟩
  simp only [zq, zx]
  have hqa := hq6 a
  have hlen : (zj L a j).length ≤ 1000000 := by have := hle a j; omega
  have hrow : zj L a (qq q0 q1 a).length = zj L (a + 1) 0 := by rw [← V3 (by omega), hLa a (by omega), List.length_map]
  refine (gq) ?_
  refine (Qcd) (fun hc3=>?_) fun hc3=>?_
  ·have hc3 : j < (qq q0 q1 a).length := by omega
   refine Qk<|Qs<|Qb<|(g4) ?_
   refine yf (hvq a (by omega)) (Uu 25) (Uz 3) rfl rfl (by omega) rfl ?_
   refine (QS) ?_
   refine zS (hvq a (by omega)) ze (Uu 3) rfl rfl (VY (by omega)) rfl ?_
   refine Vt fun x hx => ?_
   refine (g3) ?_
   have he : (L.getD a []).getD j (0, 0) = (a, x) := by rw [hLa a (by omega), z3i (by omega), hx]
   have hjl : j < (L.getD a []).length := by rw [hLa a (by omega), List.length_map]; omega
   have hok := zeE (by omega) he
   refine (gs) ?_
   refine yd [(1, _), (3, _), (5, _), (7, _), (39, _), (45, _), (46, _), (47, _), (48, _), (49, _), (50, _)] [(58, .bool (decide (2 < (x : Int)) || hap (zj L a j) a x))] [(0, some _), (1, oz2_1), (50, oy)] ⟨rfl, rfl, rfl, rfl, rfl, rfl, rfl, rfl, rfl, rfl, rfl, trivial⟩ ⟨rfl, rfl, rfl, trivial⟩ ?_ ?_
   ·skip
    refine (Qm)<|(QG)<|(Qm) ?_
    refine zo (b := decide (2 < (x : Int))) (fun hb0 => ?_) (fun hb0 => ?_)
    ·skip
     refine (gg)<|(QT)<|Qn ?_
     exact ⟨⟨rfl, rfl, rfl, rfl, rfl, rfl, rfl, rfl, rfl, rfl, rfl, trivial⟩, ⟨z4 (by rw [hb0] <;> rfl), trivial⟩, ⟨rfl, rfl, rfl, trivial⟩⟩
    ·skip
     refine (Qy)<|(gn)<|(g7) ?_
     refine zg rfl rfl (Un 94) (zL 50 rfl ⟨[], trivial⟩) (zC (G := Option.toList oy) w2 (zj L a j) a x hf1_1.shows hlen) rfl rfl ?_
     refine (QF)<|Qn ?_
     exact ⟨⟨rfl, rfl, rfl, rfl, rfl, rfl, rfl, rfl, rfl, rfl, rfl, trivial⟩, ⟨z4 (by rw [hb0] <;> rfl), trivial⟩, ⟨rfl, rfl, rfl, trivial⟩⟩
   ·simp only [zq]
    refine zi rfl ?_ ?_
    ·intro hc4
     rw [Wn (i := a) (j := j) (by omega) hjl (by rw [hok, hc4]; rfl)]
     refine (gz) ?_
     first | rw [YD (fun s t hs ht => by by_cases h2 : s < 2; exact hf0_2 s t h2 ht; (obtain ⟨s, rfl⟩ : ∃ r, s = 2 + r := ⟨s - 2, by omega⟩); exact hf2_2 s t (by omega) (by rw [hLt s (by omega), List.length_map, List.length_append] at ht; simpa using ht))] | skip
     exact ⟨_, rfl, yt⟩
    ·intro hc4
     have hcf : vQ L a j = true := by rw [hok, hc4]; rfl
     refine Qk<|Qp<|(gb)<|(Qm) ?_
     refine zA (arr .i64 2 (ev2 (a, x))) (Ub 141 rfl) (Uu 141 rfl) zdt rfl (by kernel_rfl) rfl ?_
     refine yj 2 (arr .i64 2 (ev2 (a, x))) (Uu 138 rfl) (Uz 141 rfl) (Ub 141 rfl) (by decide) (by decide) rfl (by kernel_rfl) rfl fun r3 => ?_
     refine yB 50 hf1_1 (z4G _ _ (a, x)) rfl (zZ 2 rfl ⟨[], trivial⟩) (Uu 138) (Uz 141) (Uy 141) (Ub 141) (by rfl) rfl rfl (zca _) (by simp only [maxLen]; omega) (by omega) rfl fun v7_2 oz7_2 ho7_2 => ?_
     refine (jb) ?_
     refine QzL ⟨j + 1, _, _, rfl, rfl, rfl, by omega, (zy ho7_2 (by rw [ZG hjl, List.length_append, he]; rfl) (by rw [ZG hjl, ← z9f, he])), fun t ht => by by_cases e : t = j; (subst e; exact hcf); exact hf1_2 t (by omega)⟩ ⟨rfl, rfl, rfl, rfl, rfl, rfl, rfl, trivial⟩ ⟨rfl, rfl, rfl, trivial⟩ ?_
     omega
  ·have hz1 : j = (qq q0 q1 a).length := by omega
   refine Qe<|(gl) ?_
   refine QzL ⟨a + 1, _, _, rfl, rfl, rfl, by omega, (zy hf1_1 (by rw [hz1, hrow]) (by rw [hz1, hrow])), fun s t hs ht => by by_cases e : s = a; (subst e; rw [hLa s (by omega), List.length_map] at ht; exact hf1_2 t (by omega)); exact hf0_2 s t (by omega) ht⟩ ⟨rfl, rfl, rfl, trivial⟩ ⟨rfl, rfl, rfl, trivial⟩ ?_
   omega
 ·have hz0 : a = 2 := by omega
  subst hz0
  refine Qe<|(gs)<|(jd)<|(QC hvt)<|(Qm)<|Qn<|Qb ?_
  refine QzK [(1, _), (39, _), (68, _), (69, _)] [(0, _), (1, oz2_1)] (fun kk E m => ∃ (i : Nat) (w3 : Value) (ox : Option Blk), kk = tvs.length - i ∧ E = [(3, w3), (70, ii i)] ∧ m = [(50, ox)] ∧ (i ≤ tvs.length) ∧ (OwnS 141 2 w3 (zj L (2 + i) 0).length ((zj L (2 + i) 0).flatMap evC) (Option.toList ox)) ∧ (∀ s t, s < i → t < (us.getD s []).length + 1 → vQ L (2 + s) t = true)) ⟨0, w, oz, rfl, rfl, rfl, by omega, hf0_1, fun _ _ h => absurd h (Nat.not_lt_zero _)⟩ ⟨rfl, rfl, rfl, rfl, rfl, rfl, trivial⟩ ⟨rfl, rfl, rfl, trivial⟩ ?_
  rintro kk E m ⟨i, w3, ox, rfl, rfl, rfl, hf2_0, hf2_1, hf2_2⟩
  simp only [zq, zx]
  refine (gq) ?_
  refine (Qcd) (fun hc5=>?_) fun hc5=>?_
  ·have hc5 : i < tvs.length := by omega
   refine (jr) ?_
   refine yf hvt (Uu 27) (Uz 25) rfl rfl (by omega) rfl ?_
   refine (QS) ?_
   refine zS hvt ze (Uu 25) rfl rfl (xz (by omega)) rfl ?_
   refine (g8)<|(g6)<|(Q4 2)<|(g3)<|(gs)<|(Qf 1)<|(QV 1 0)<|Qn ?_
   refine z0i [(1, _), (3, _), (8, _), (9, _), (39, _), (68, _), (69, _), (70, _), (71, _), (72, _), (73, _), (74, _), (75, _), (76, _), (77, _), (78, _)] [(10, ii (xO late i))] [(0, some _), (1, oz2_1), (50, ox)] ⟨rfl, rfl, rfl, rfl, rfl, rfl, rfl, rfl, rfl, rfl, rfl, rfl, rfl, rfl, rfl, rfl, trivial⟩ ⟨rfl, rfl, rfl, trivial⟩ ?_ ?_
   ·skip
    refine zi rfl ?_ ?_
    ·intro hc6
     have hcL := hc6
     refine (je)<|(Q2 1)<|(Q4 2)<|(g3) ?_
     exact ⟨⟨rfl, rfl, rfl, rfl, rfl, rfl, rfl, rfl, rfl, rfl, rfl, rfl, rfl, rfl, rfl, rfl, trivial⟩, ⟨(by rw [xO, hcL] <;> rfl), trivial⟩, ⟨rfl, rfl, rfl, trivial⟩⟩
    ·intro hc6
     have hcL := hc6
     refine Qk ?_
     exact ⟨⟨rfl, rfl, rfl, rfl, rfl, rfl, rfl, rfl, rfl, rfl, rfl, rfl, rfl, rfl, rfl, rfl, trivial⟩, ⟨(by rw [xO, hcL] <;> rfl), trivial⟩, ⟨rfl, rfl, rfl, trivial⟩⟩
   ·simp only [zq]
    refine (g4) ?_
    refine vG 2 (Uu 25 rfl) (Uz 3 rfl) rfl fun r3 => ?_
    refine (Qm) ?_
    refine yB 2 Y0 (zia hT (by omega)) rfl ze (Uu 25) (Uz 3) (Uy 3) (Ub 3) (by rfl) rfl rfl z15 (by have := hug i (by omega); simp only [maxLen]; omega) (by have := hug i (by omega); omega) rfl fun v6_2 oz6_2 ho6_2 => ?_
    refine yj 3 #[ii 0] (Uu 25 rfl) (Uz 3 rfl) (Ub 3 rfl) (by decide) (by decide) rfl (by kernel_rfl) rfl fun r4 => ?_
    refine yB 2 ho6_2 (xq _ _ (by rfl)) rfl (zZ 3 rfl ⟨[], trivial⟩) (Uu 25) (Uz 3) (Uy 3) (Ub 3) (by rfl) rfl rfl (by simp; rfl) (by have := hug i (by omega); simp only [maxLen]; omega) (by have := hug i (by omega); omega) rfl fun v6_3 oz6_3 ho6_3 => ?_
    refine (QC ho6_3.shows) ?_
    refine z6 (congrArg ii (show _ = (us.getD i []).length + 1 by omega)) ?_
    refine (Qm)<|Qn<|Qb ?_
    refine QzK [(1, _), (10, _), (39, _), (68, _), (69, _), (70, _), (86, _), (87, _)] [(0, _), (1, oz2_1), (2, oz6_3), (3, _)] (fun kk E m => ∃ (p : Nat) (w4 : Value) (ow : Option Blk), kk = ((us.getD i []).length + 1) - p ∧ E = [(3, w4), (88, ii p)] ∧ m = [(50, ow)] ∧ (p ≤ ((us.getD i []).length + 1)) ∧ (OwnS 141 2 w4 (zj L (2 + i) p).length ((zj L (2 + i) p).flatMap evC) (Option.toList ow)) ∧ (∀ t, t < p → vQ L (2 + i) t = true)) ⟨0, w3, ox, rfl, rfl, rfl, by omega, hf2_1, fun _ h => absurd h (Nat.not_lt_zero _)⟩ ⟨rfl, rfl, rfl, rfl, rfl, rfl, rfl, rfl, rfl, rfl, trivial⟩ ⟨rfl, rfl, rfl, rfl, rfl, trivial⟩ ?_
    rintro kk E m ⟨p, w4, ow, rfl, rfl, rfl, hf3_0, hf3_1, hf3_2⟩
    simp only [zq, zx]
    have hui := hug i (by omega)
    have hlen : (zj L (2 + i) p).length ≤ 1000000 := by have := hle (2 + i) p; omega
    have hrow3 : zj L (2 + i) ((us.getD i []).length + 1) = zj L (2 + (i + 1)) 0 := by rw [show 2 + (i + 1) = 2 + i + 1 by omega, ← V3 (by omega), hLt i (by omega), List.length_map, List.length_append]; rfl
    refine (gq) ?_
    refine (Qcd) (fun hc7=>?_) fun hc7=>?_
    ·have hc7 : p < ((us.getD i []).length + 1) := by omega
     refine Qk<|Qs<|Qb<|(g4) ?_
     refine yf ho6_3.shows (Uu 25) (Uz 3) rfl rfl (by omega) rfl ?_
     refine (QS) ?_
     refine zS ho6_3.shows (zL 2 rfl ⟨[], trivial⟩) (Uu 3) rfl rfl (zjq (by omega)) rfl ?_
     refine Vt fun y hy => ?_
     refine (g3) ?_
     have he : (L.getD (2 + i) []).getD p (0, 0) = (xO late i, y) := by rw [hLt i (by omega), z3i (by rw [List.length_append]; exact hc7), hy]
     have hjl : p < (L.getD (2 + i) []).length := by rw [hLt i (by omega), List.length_map, List.length_append]; exact hc7
     have hok := zbc he
     refine (g4) ?_
     refine yd [(1, _), (3, _), (10, _), (12, _), (39, _), (68, _), (69, _), (70, _), (86, _), (87, _), (88, _), (89, _), (90, _), (91, _)] [(13, .bool (xN (zj L (2 + i) p)))] [(0, some _), (1, oz2_1), (2, oz6_3), (3, some _), (50, ow)] ⟨rfl, rfl, rfl, rfl, rfl, rfl, rfl, rfl, rfl, rfl, rfl, rfl, rfl, rfl, trivial⟩ ⟨rfl, rfl, rfl, rfl, rfl, trivial⟩ ?_ ?_
     ·skip
      refine (Qm) ?_
      refine zg rfl rfl (Un 94) (zL 50 rfl ⟨[], trivial⟩) (zC (G := Option.toList ow) w4 (zj L (2 + i) p) (-1) 3 hf3_1.shows hlen) rfl rfl ?_
      refine (Qm) ?_
      refine zo (b := hap (zj L (2 + i) p) (-1) 3) (fun hb1 => ?_) (fun hb1 => ?_)
      ·skip
       refine (g5)<|(QT)<|(Qm)<|(g5)<|(QT)<|(Qm)<|(g5)<|(QT)<|(Qm)<|(g5)<|(QT)<|(g3) ?_
       exact ⟨⟨rfl, rfl, rfl, rfl, rfl, rfl, rfl, rfl, rfl, rfl, rfl, rfl, rfl, rfl, trivial⟩, ⟨z4 (by rw [xN, hb1] <;> rfl), trivial⟩, ⟨rfl, rfl, rfl, rfl, rfl, trivial⟩⟩
      ·skip
       refine (Qy)<|(g7) ?_
       refine zg rfl rfl (Un 94) (zL 50 rfl ⟨[], trivial⟩) (zC (G := Option.toList ow) w4 (zj L (2 + i) p) (-1) 4 hf3_1.shows hlen) rfl rfl ?_
       refine (QF)<|(Qm) ?_
       refine zo (b := hap (zj L (2 + i) p) (-1) 4) (fun hb2 => ?_) (fun hb2 => ?_)
       ·skip
        refine (g5)<|(QT)<|(Qm)<|(g5)<|(QT)<|(Qm)<|(g5)<|(QT)<|(g3) ?_
        exact ⟨⟨rfl, rfl, rfl, rfl, rfl, rfl, rfl, rfl, rfl, rfl, rfl, rfl, rfl, rfl, trivial⟩, ⟨z4 (by rw [xN, hb1, hb2] <;> rfl), trivial⟩, ⟨rfl, rfl, rfl, rfl, rfl, trivial⟩⟩
       ·skip
        refine (Qy)<|(g7) ?_
        refine zg rfl rfl (Un 94) (zL 50 rfl ⟨[], trivial⟩) (zC (G := Option.toList ow) w4 (zj L (2 + i) p) (-1) 5 hf3_1.shows hlen) rfl rfl ?_
        refine (QF)<|(Qm) ?_
        refine zo (b := hap (zj L (2 + i) p) (-1) 5) (fun hb3 => ?_) (fun hb3 => ?_)
        ·skip
         refine (g5)<|(QT)<|(Qm)<|(g5)<|(QT)<|(g3) ?_
         exact ⟨⟨rfl, rfl, rfl, rfl, rfl, rfl, rfl, rfl, rfl, rfl, rfl, rfl, rfl, rfl, trivial⟩, ⟨z4 (by rw [xN, hb1, hb2, hb3] <;> rfl), trivial⟩, ⟨rfl, rfl, rfl, rfl, rfl, trivial⟩⟩
        ·skip
         refine (Qy)<|(g7) ?_
         refine zg rfl rfl (Un 94) (zL 50 rfl ⟨[], trivial⟩) (zC (G := Option.toList ow) w4 (zj L (2 + i) p) (-1) 6 hf3_1.shows hlen) rfl rfl ?_
         refine (QF)<|(Qm) ?_
         refine zo (b := hap (zj L (2 + i) p) (-1) 6) (fun hb4 => ?_) (fun hb4 => ?_)
         ·skip
          refine (g5)<|(QT)<|(g3) ?_
          exact ⟨⟨rfl, rfl, rfl, rfl, rfl, rfl, rfl, rfl, rfl, rfl, rfl, rfl, rfl, rfl, trivial⟩, ⟨z4 (by rw [xN, hb1, hb2, hb3, hb4] <;> rfl), trivial⟩, ⟨rfl, rfl, rfl, rfl, rfl, trivial⟩⟩
         ·skip
          refine (Qy)<|(g7) ?_
          refine zg rfl rfl (Un 94) (zL 50 rfl ⟨[], trivial⟩) (zC (G := Option.toList ow) w4 (zj L (2 + i) p) (-1) 7 hf3_1.shows hlen) rfl rfl ?_
          refine (QF)<|(g3) ?_
          exact ⟨⟨rfl, rfl, rfl, rfl, rfl, rfl, rfl, rfl, rfl, rfl, rfl, rfl, rfl, rfl, trivial⟩, ⟨z4 (by rw [xN, hb1, hb2, hb3, hb4] <;> rfl), trivial⟩, ⟨rfl, rfl, rfl, rfl, rfl, trivial⟩⟩
     ·simp only [zq]
      refine (gc)<|(ji)<|(g4)<|(Qc)<|(g3) ?_
      refine z0i [(1, _), (3, _), (10, _), (12, _), (13, _), (39, _), (68, _), (69, _), (70, _), (86, _), (87, _), (88, _), (89, _), (90, _), (91, _), (110, _), (111, _), (112, _)] [(14, .bool (okT (zj L (2 + i) p) (xO late i) y))] [(0, some _), (1, oz2_1), (2, oz6_3), (3, some _), (50, ow)] ⟨rfl, rfl, rfl, rfl, rfl, rfl, rfl, rfl, rfl, rfl, rfl, rfl, rfl, rfl, rfl, rfl, rfl, rfl, trivial⟩ ⟨rfl, rfl, rfl, rfl, rfl, trivial⟩ ?_ ?_
      ·skip
       refine zi rfl ?_ ?_
       ·intro hc8
        have hk0 : y = 0 := by have := of_decide_eq_true hc8; omega
        refine Qp ?_
        refine yd [(1, _), (3, _), (10, _), (12, _), (13, _), (39, _), (68, _), (69, _), (70, _), (86, _), (87, _), (88, _), (89, _), (90, _), (91, _), (110, _), (111, _), (112, _)] [(14, .bool (!(xN (zj L (2 + i) p)) || mlock (zj L (2 + i) p) (xO late i)))] [(0, some _), (1, oz2_1), (2, oz6_3), (3, some _), (50, ow)] ⟨rfl, rfl, rfl, rfl, rfl, rfl, rfl, rfl, rfl, rfl, rfl, rfl, rfl, rfl, rfl, rfl, rfl, rfl, trivial⟩ ⟨rfl, rfl, rfl, rfl, rfl, trivial⟩ ?_ ?_
        ·skip
         refine (Qm)<|(Q0)<|(Qm) ?_
         refine zo (b := !(xN (zj L (2 + i) p))) (fun hb5 => ?_) (fun hb5 => ?_)
         ·skip
          refine (gw)<|(QT)<|(g3) ?_
          exact ⟨⟨rfl, rfl, rfl, rfl, rfl, rfl, rfl, rfl, rfl, rfl, rfl, rfl, rfl, rfl, rfl, rfl, rfl, rfl, trivial⟩, ⟨z4 (by rw [hb5] <;> rfl), trivial⟩, ⟨rfl, rfl, rfl, rfl, rfl, trivial⟩⟩
         ·skip
          refine (Qy)<|(gn) ?_
          refine zg rfl rfl (Un 95) (zL 50 rfl ⟨[], trivial⟩) (z0x (G := Option.toList ow) w4 (zj L (2 + i) p) (xO late i) hf3_1.shows hlen) rfl rfl ?_
          refine (QF)<|(g3) ?_
          exact ⟨⟨rfl, rfl, rfl, rfl, rfl, rfl, rfl, rfl, rfl, rfl, rfl, rfl, rfl, rfl, rfl, rfl, rfl, rfl, trivial⟩, ⟨z4 (by rw [hb5] <;> rfl), trivial⟩, ⟨rfl, rfl, rfl, rfl, rfl, trivial⟩⟩
        ·simp only [zq]
         exact ⟨⟨rfl, rfl, rfl, rfl, rfl, rfl, rfl, rfl, rfl, rfl, rfl, rfl, rfl, rfl, rfl, rfl, rfl, rfl, trivial⟩, ⟨(z4 (by first | (rw [okT, if_pos hk0]) | (rw [okT, if_neg hk0, if_pos hk1]) | (rw [okT, if_neg hk0, if_neg hk1, if_pos hk2]) | (rw [okT, if_neg hk0, if_neg hk1, if_neg hk2, if_pos hk3]) | (rw [okT, if_neg hk0, if_neg hk1, if_neg hk2, if_neg hk3, if_pos hk4]) | (rw [okT, if_neg hk0, if_neg hk1, if_neg hk2, if_neg hk3, if_neg hk4, if_pos hk5]) | (rw [okT, if_neg hk0, if_neg hk1, if_neg hk2, if_neg hk3, if_neg hk4, if_neg hk5, if_pos hk6]) | (rw [okT, if_neg hk0, if_neg hk1, if_neg hk2, if_neg hk3, if_neg hk4, if_neg hk5, if_neg hk6]))), trivial⟩, ⟨rfl, rfl, rfl, rfl, rfl, trivial⟩⟩
       ·intro hc8
        have hk0 : ¬ y = 0 := by have := of_decide_eq_false hc8; omega
        refine (g4)<|(Qc)<|(g3) ?_
        refine zi rfl ?_ ?_
        ·intro hc9
         have hk1 : y = 1 := by have := of_decide_eq_true hc9; omega
         refine Qp<|(gb) ?_
         refine zg rfl rfl (Un 94) (zL 50 rfl ⟨[], trivial⟩) (zC (G := Option.toList ow) w4 (zj L (2 + i) p) (xO late i) 1 hf3_1.shows hlen) rfl rfl ?_
         refine (Q0)<|(g3) ?_
         exact ⟨⟨rfl, rfl, rfl, rfl, rfl, rfl, rfl, rfl, rfl, rfl, rfl, rfl, rfl, rfl, rfl, rfl, rfl, rfl, trivial⟩, ⟨(z4 (by first | (rw [okT, if_pos hk0]) | (rw [okT, if_neg hk0, if_pos hk1]) | (rw [okT, if_neg hk0, if_neg hk1, if_pos hk2]) | (rw [okT, if_neg hk0, if_neg hk1, if_neg hk2, if_pos hk3]) | (rw [okT, if_neg hk0, if_neg hk1, if_neg hk2, if_neg hk3, if_pos hk4]) | (rw [okT, if_neg hk0, if_neg hk1, if_neg hk2, if_neg hk3, if_neg hk4, if_pos hk5]) | (rw [okT, if_neg hk0, if_neg hk1, if_neg hk2, if_neg hk3, if_neg hk4, if_neg hk5, if_pos hk6]) | (rw [okT, if_neg hk0, if_neg hk1, if_neg hk2, if_neg hk3, if_neg hk4, if_neg hk5, if_neg hk6]))), trivial⟩, ⟨rfl, rfl, rfl, rfl, rfl, trivial⟩⟩
        ·intro hc9
         have hk1 : ¬ y = 1 := by have := of_decide_eq_false hc9; omega
         refine (g4)<|(Qc)<|(g3) ?_
         refine zi rfl ?_ ?_
         ·intro hc10
          have hk2 : y = 2 := by have := of_decide_eq_true hc10; omega
          refine Qp ?_
          refine yd [(1, _), (3, _), (10, _), (12, _), (13, _), (39, _), (68, _), (69, _), (70, _), (86, _), (87, _), (88, _), (89, _), (90, _), (91, _), (110, _), (111, _), (112, _), (120, _), (121, _), (126, _), (127, _)] [(14, .bool (!(hap (zj L (2 + i) p) (xO late i) 2) && (!(xN (zj L (2 + i) p)) || mlock (zj L (2 + i) p) (xO late i))))] [(0, some _), (1, oz2_1), (2, oz6_3), (3, some _), (50, ow)] ⟨rfl, rfl, rfl, rfl, rfl, rfl, rfl, rfl, rfl, rfl, rfl, rfl, rfl, rfl, rfl, rfl, rfl, rfl, rfl, rfl, rfl, rfl, trivial⟩ ⟨rfl, rfl, rfl, rfl, rfl, trivial⟩ ?_ ?_
          ·skip
           refine (gb) ?_
           refine zg rfl rfl (Un 94) (zL 50 rfl ⟨[], trivial⟩) (zC (G := Option.toList ow) w4 (zj L (2 + i) p) (xO late i) 2 hf3_1.shows hlen) rfl rfl ?_
           refine (Q0)<|(Qm) ?_
           refine zo (b := !(hap (zj L (2 + i) p) (xO late i) 2)) (fun hb6 => ?_) (fun hb6 => ?_)
           ·skip
            refine (Qy)<|(g7)<|(Q0)<|(Qy)<|(Qm) ?_
            refine zo (b := !(xN (zj L (2 + i) p))) (fun hb7 => ?_) (fun hb7 => ?_)
            ·skip
             refine (gw)<|(Qy)<|(QT)<|(QT)<|(g3) ?_
             exact ⟨⟨rfl, rfl, rfl, rfl, rfl, rfl, rfl, rfl, rfl, rfl, rfl, rfl, rfl, rfl, rfl, rfl, rfl, rfl, rfl, rfl, rfl, rfl, trivial⟩, ⟨z4 (by rw [hb6, hb7] <;> rfl), trivial⟩, ⟨rfl, rfl, rfl, rfl, rfl, trivial⟩⟩
            ·skip
             refine (Qy)<|(gn) ?_
             refine zg rfl rfl (Un 95) (zL 50 rfl ⟨[], trivial⟩) (z0x (G := Option.toList ow) w4 (zj L (2 + i) p) (xO late i) hf3_1.shows hlen) rfl rfl ?_
             refine (Qy)<|(QF)<|(QT)<|(g3) ?_
             exact ⟨⟨rfl, rfl, rfl, rfl, rfl, rfl, rfl, rfl, rfl, rfl, rfl, rfl, rfl, rfl, rfl, rfl, rfl, rfl, rfl, rfl, rfl, rfl, trivial⟩, ⟨z4 (by rw [hb6, hb7] <;> rfl), trivial⟩, ⟨rfl, rfl, rfl, rfl, rfl, trivial⟩⟩
           ·skip
            refine (gw)<|(Qw)<|(Qw)<|(Qw)<|(Qo)<|(QF)<|(g3) ?_
            exact ⟨⟨rfl, rfl, rfl, rfl, rfl, rfl, rfl, rfl, rfl, rfl, rfl, rfl, rfl, rfl, rfl, rfl, rfl, rfl, rfl, rfl, rfl, rfl, trivial⟩, ⟨z4 (by rw [hb6] <;> rfl), trivial⟩, ⟨rfl, rfl, rfl, rfl, rfl, trivial⟩⟩
          ·simp only [zq]
           exact ⟨⟨rfl, rfl, rfl, rfl, rfl, rfl, rfl, rfl, rfl, rfl, rfl, rfl, rfl, rfl, rfl, rfl, rfl, rfl, trivial⟩, ⟨(z4 (by first | (rw [okT, if_pos hk0]) | (rw [okT, if_neg hk0, if_pos hk1]) | (rw [okT, if_neg hk0, if_neg hk1, if_pos hk2]) | (rw [okT, if_neg hk0, if_neg hk1, if_neg hk2, if_pos hk3]) | (rw [okT, if_neg hk0, if_neg hk1, if_neg hk2, if_neg hk3, if_pos hk4]) | (rw [okT, if_neg hk0, if_neg hk1, if_neg hk2, if_neg hk3, if_neg hk4, if_pos hk5]) | (rw [okT, if_neg hk0, if_neg hk1, if_neg hk2, if_neg hk3, if_neg hk4, if_neg hk5, if_pos hk6]) | (rw [okT, if_neg hk0, if_neg hk1, if_neg hk2, if_neg hk3, if_neg hk4, if_neg hk5, if_neg hk6]))), trivial⟩, ⟨rfl, rfl, rfl, rfl, rfl, trivial⟩⟩
         ·intro hc10
          have hk2 : ¬ y = 2 := by have := of_decide_eq_false hc10; omega
          refine (g4)<|(Qc)<|(g3) ?_
          refine zi rfl ?_ ?_
          ·intro hc11
           have hk3 : y = 3 := by have := of_decide_eq_true hc11; omega
           refine Qp ?_
           refine yd [(1, _), (3, _), (10, _), (12, _), (13, _), (39, _), (68, _), (69, _), (70, _), (86, _), (87, _), (88, _), (89, _), (90, _), (91, _), (110, _), (111, _), (112, _), (120, _), (121, _), (126, _), (127, _), (141, _), (142, _)] [(14, .bool ((hap (zj L (2 + i) p) 0 1 && hap (zj L (2 + i) p) 1 1) && !(hap (zj L (2 + i) p) (-1) y)))] [(0, some _), (1, oz2_1), (2, oz6_3), (3, some _), (50, ow)] ⟨rfl, rfl, rfl, rfl, rfl, rfl, rfl, rfl, rfl, rfl, rfl, rfl, rfl, rfl, rfl, rfl, rfl, rfl, rfl, rfl, rfl, rfl, rfl, rfl, trivial⟩ ⟨rfl, rfl, rfl, rfl, rfl, trivial⟩ ?_ ?_
           ·skip
            refine (Qm) ?_
            refine zg rfl rfl (Un 94) (zL 50 rfl ⟨[], trivial⟩) (zC (G := Option.toList ow) w4 (zj L (2 + i) p) 0 1 hf3_1.shows hlen) rfl rfl ?_
            refine (Qm) ?_
            refine zo (b := hap (zj L (2 + i) p) 0 1) (fun hb8 => ?_) (fun hb8 => ?_)
            ·skip
             refine (Qy)<|(g7) ?_
             refine zg rfl rfl (Un 94) (zL 50 rfl ⟨[], trivial⟩) (zC (G := Option.toList ow) w4 (zj L (2 + i) p) 1 1 hf3_1.shows hlen) rfl rfl ?_
             refine (QT)<|(Qm) ?_
             refine zo (b := hap (zj L (2 + i) p) 1 1) (fun hb9 => ?_) (fun hb9 => ?_)
             ·skip
              refine (Qy)<|(gn) ?_
              refine zg rfl rfl (Un 94) (zL 50 rfl ⟨[], trivial⟩) (zC (G := Option.toList ow) w4 (zj L (2 + i) p) (-1) y hf3_1.shows hlen) rfl rfl ?_
              refine (Qy)<|(Q0)<|(QT)<|(g3) ?_
              exact ⟨⟨rfl, rfl, rfl, rfl, rfl, rfl, rfl, rfl, rfl, rfl, rfl, rfl, rfl, rfl, rfl, rfl, rfl, rfl, rfl, rfl, rfl, rfl, rfl, rfl, trivial⟩, ⟨z4 (by rw [hb8, hb9] <;> rfl), trivial⟩, ⟨rfl, rfl, rfl, rfl, rfl, trivial⟩⟩
             ·skip
              refine (gg)<|(QF)<|(g3) ?_
              exact ⟨⟨rfl, rfl, rfl, rfl, rfl, rfl, rfl, rfl, rfl, rfl, rfl, rfl, rfl, rfl, rfl, rfl, rfl, rfl, rfl, rfl, rfl, rfl, rfl, rfl, trivial⟩, ⟨z4 (by rw [hb8, hb9] <;> rfl), trivial⟩, ⟨rfl, rfl, rfl, rfl, rfl, trivial⟩⟩
            ·skip
             refine (g5)<|(QF)<|(j5)<|(QF)<|(g3) ?_
             exact ⟨⟨rfl, rfl, rfl, rfl, rfl, rfl, rfl, rfl, rfl, rfl, rfl, rfl, rfl, rfl, rfl, rfl, rfl, rfl, rfl, rfl, rfl, rfl, rfl, rfl, trivial⟩, ⟨z4 (by rw [hb8] <;> rfl), trivial⟩, ⟨rfl, rfl, rfl, rfl, rfl, trivial⟩⟩
           ·simp only [zq]
            exact ⟨⟨rfl, rfl, rfl, rfl, rfl, rfl, rfl, rfl, rfl, rfl, rfl, rfl, rfl, rfl, rfl, rfl, rfl, rfl, trivial⟩, ⟨(z4 (by first | (rw [okT, if_pos hk0]) | (rw [okT, if_neg hk0, if_pos hk1]) | (rw [okT, if_neg hk0, if_neg hk1, if_pos hk2]) | (rw [okT, if_neg hk0, if_neg hk1, if_neg hk2, if_pos hk3]) | (rw [okT, if_neg hk0, if_neg hk1, if_neg hk2, if_neg hk3, if_pos hk4]) | (rw [okT, if_neg hk0, if_neg hk1, if_neg hk2, if_neg hk3, if_neg hk4, if_pos hk5]) | (rw [okT, if_neg hk0, if_neg hk1, if_neg hk2, if_neg hk3, if_neg hk4, if_neg hk5, if_pos hk6]) | (rw [okT, if_neg hk0, if_neg hk1, if_neg hk2, if_neg hk3, if_neg hk4, if_neg hk5, if_neg hk6]))), trivial⟩, ⟨rfl, rfl, rfl, rfl, rfl, trivial⟩⟩
          ·intro hc11
           have hk3 : ¬ y = 3 := by have := of_decide_eq_false hc11; omega
           refine (g4)<|(Qc)<|(g3) ?_
           refine zi rfl ?_ ?_
           ·intro hc12
            have hk4 : y = 4 := by have := of_decide_eq_true hc12; omega
            refine Qp ?_
            refine yd [(1, _), (3, _), (10, _), (12, _), (13, _), (39, _), (68, _), (69, _), (70, _), (86, _), (87, _), (88, _), (89, _), (90, _), (91, _), (110, _), (111, _), (112, _), (120, _), (121, _), (126, _), (127, _), (141, _), (142, _), (155, _), (156, _)] [(14, .bool ((hap (zj L (2 + i) p) 0 1 && hap (zj L (2 + i) p) 1 2) && !(hap (zj L (2 + i) p) (-1) y)))] [(0, some _), (1, oz2_1), (2, oz6_3), (3, some _), (50, ow)] ⟨rfl, rfl, rfl, rfl, rfl, rfl, rfl, rfl, rfl, rfl, rfl, rfl, rfl, rfl, rfl, rfl, rfl, rfl, rfl, rfl, rfl, rfl, rfl, rfl, rfl, rfl, trivial⟩ ⟨rfl, rfl, rfl, rfl, rfl, trivial⟩ ?_ ?_
            ·skip
             refine (Qm) ?_
             refine zg rfl rfl (Un 94) (zL 50 rfl ⟨[], trivial⟩) (zC (G := Option.toList ow) w4 (zj L (2 + i) p) 0 1 hf3_1.shows hlen) rfl rfl ?_
             refine (Qm) ?_
             refine zo (b := hap (zj L (2 + i) p) 0 1) (fun hb10 => ?_) (fun hb10 => ?_)
             ·skip
              refine (Qy)<|(g7) ?_
              refine zg rfl rfl (Un 94) (zL 50 rfl ⟨[], trivial⟩) (zC (G := Option.toList ow) w4 (zj L (2 + i) p) 1 2 hf3_1.shows hlen) rfl rfl ?_
              refine (QT)<|(Qm) ?_
              refine zo (b := hap (zj L (2 + i) p) 1 2) (fun hb11 => ?_) (fun hb11 => ?_)
              ·skip
               refine (Qy)<|(gn) ?_
               refine zg rfl rfl (Un 94) (zL 50 rfl ⟨[], trivial⟩) (zC (G := Option.toList ow) w4 (zj L (2 + i) p) (-1) y hf3_1.shows hlen) rfl rfl ?_
               refine (Qy)<|(Q0)<|(QT)<|(g3) ?_
               exact ⟨⟨rfl, rfl, rfl, rfl, rfl, rfl, rfl, rfl, rfl, rfl, rfl, rfl, rfl, rfl, rfl, rfl, rfl, rfl, rfl, rfl, rfl, rfl, rfl, rfl, rfl, rfl, trivial⟩, ⟨z4 (by rw [hb10, hb11] <;> rfl), trivial⟩, ⟨rfl, rfl, rfl, rfl, rfl, trivial⟩⟩
              ·skip
               refine (gg)<|(QF)<|(g3) ?_
               exact ⟨⟨rfl, rfl, rfl, rfl, rfl, rfl, rfl, rfl, rfl, rfl, rfl, rfl, rfl, rfl, rfl, rfl, rfl, rfl, rfl, rfl, rfl, rfl, rfl, rfl, rfl, rfl, trivial⟩, ⟨z4 (by rw [hb10, hb11] <;> rfl), trivial⟩, ⟨rfl, rfl, rfl, rfl, rfl, trivial⟩⟩
             ·skip
              refine (g5)<|(QF)<|(j5)<|(QF)<|(g3) ?_
              exact ⟨⟨rfl, rfl, rfl, rfl, rfl, rfl, rfl, rfl, rfl, rfl, rfl, rfl, rfl, rfl, rfl, rfl, rfl, rfl, rfl, rfl, rfl, rfl, rfl, rfl, rfl, rfl, trivial⟩, ⟨z4 (by rw [hb10] <;> rfl), trivial⟩, ⟨rfl, rfl, rfl, rfl, rfl, trivial⟩⟩
            ·simp only [zq]
             exact ⟨⟨rfl, rfl, rfl, rfl, rfl, rfl, rfl, rfl, rfl, rfl, rfl, rfl, rfl, rfl, rfl, rfl, rfl, rfl, trivial⟩, ⟨(z4 (by first | (rw [okT, if_pos hk0]) | (rw [okT, if_neg hk0, if_pos hk1]) | (rw [okT, if_neg hk0, if_neg hk1, if_pos hk2]) | (rw [okT, if_neg hk0, if_neg hk1, if_neg hk2, if_pos hk3]) | (rw [okT, if_neg hk0, if_neg hk1, if_neg hk2, if_neg hk3, if_pos hk4]) | (rw [okT, if_neg hk0, if_neg hk1, if_neg hk2, if_neg hk3, if_neg hk4, if_pos hk5]) | (rw [okT, if_neg hk0, if_neg hk1, if_neg hk2, if_neg hk3, if_neg hk4, if_neg hk5, if_pos hk6]) | (rw [okT, if_neg hk0, if_neg hk1, if_neg hk2, if_neg hk3, if_neg hk4, if_neg hk5, if_neg hk6]))), trivial⟩, ⟨rfl, rfl, rfl, rfl, rfl, trivial⟩⟩
           ·intro hc12
            have hk4 : ¬ y = 4 := by have := of_decide_eq_false hc12; omega
            refine (g4)<|(Qc)<|(g3) ?_
            refine zi rfl ?_ ?_
            ·intro hc13
             have hk5 : y = 5 := by have := of_decide_eq_true hc13; omega
             refine Qp ?_
             refine yd [(1, _), (3, _), (10, _), (12, _), (13, _), (39, _), (68, _), (69, _), (70, _), (86, _), (87, _), (88, _), (89, _), (90, _), (91, _), (110, _), (111, _), (112, _), (120, _), (121, _), (126, _), (127, _), (141, _), (142, _), (155, _), (156, _), (169, _), (170, _)] [(14, .bool ((hap (zj L (2 + i) p) 0 2 && hap (zj L (2 + i) p) 1 1) && !(hap (zj L (2 + i) p) (-1) y)))] [(0, some _), (1, oz2_1), (2, oz6_3), (3, some _), (50, ow)] ⟨rfl, rfl, rfl, rfl, rfl, rfl, rfl, rfl, rfl, rfl, rfl, rfl, rfl, rfl, rfl, rfl, rfl, rfl, rfl, rfl, rfl, rfl, rfl, rfl, rfl, rfl, rfl, rfl, trivial⟩ ⟨rfl, rfl, rfl, rfl, rfl, trivial⟩ ?_ ?_
             ·skip
              refine (Qm) ?_
              refine zg rfl rfl (Un 94) (zL 50 rfl ⟨[], trivial⟩) (zC (G := Option.toList ow) w4 (zj L (2 + i) p) 0 2 hf3_1.shows hlen) rfl rfl ?_
              refine (Qm) ?_
              refine zo (b := hap (zj L (2 + i) p) 0 2) (fun hb12 => ?_) (fun hb12 => ?_)
              ·skip
               refine (Qy)<|(g7) ?_
               refine zg rfl rfl (Un 94) (zL 50 rfl ⟨[], trivial⟩) (zC (G := Option.toList ow) w4 (zj L (2 + i) p) 1 1 hf3_1.shows hlen) rfl rfl ?_
               refine (QT)<|(Qm) ?_
               refine zo (b := hap (zj L (2 + i) p) 1 1) (fun hb13 => ?_) (fun hb13 => ?_)
               ·skip
                refine (Qy)<|(gn) ?_
                refine zg rfl rfl (Un 94) (zL 50 rfl ⟨[], trivial⟩) (zC (G := Option.toList ow) w4 (zj L (2 + i) p) (-1) y hf3_1.shows hlen) rfl rfl ?_
                refine (Qy)<|(Q0)<|(QT)<|(g3) ?_
                exact ⟨⟨rfl, rfl, rfl, rfl, rfl, rfl, rfl, rfl, rfl, rfl, rfl, rfl, rfl, rfl, rfl, rfl, rfl, rfl, rfl, rfl, rfl, rfl, rfl, rfl, rfl, rfl, rfl, rfl, trivial⟩, ⟨z4 (by rw [hb12, hb13] <;> rfl), trivial⟩, ⟨rfl, rfl, rfl, rfl, rfl, trivial⟩⟩
               ·skip
                refine (gg)<|(QF)<|(g3) ?_
                exact ⟨⟨rfl, rfl, rfl, rfl, rfl, rfl, rfl, rfl, rfl, rfl, rfl, rfl, rfl, rfl, rfl, rfl, rfl, rfl, rfl, rfl, rfl, rfl, rfl, rfl, rfl, rfl, rfl, rfl, trivial⟩, ⟨z4 (by rw [hb12, hb13] <;> rfl), trivial⟩, ⟨rfl, rfl, rfl, rfl, rfl, trivial⟩⟩
              ·skip
               refine (g5)<|(QF)<|(j5)<|(QF)<|(g3) ?_
               exact ⟨⟨rfl, rfl, rfl, rfl, rfl, rfl, rfl, rfl, rfl, rfl, rfl, rfl, rfl, rfl, rfl, rfl, rfl, rfl, rfl, rfl, rfl, rfl, rfl, rfl, rfl, rfl, rfl, rfl, trivial⟩, ⟨z4 (by rw [hb12] <;> rfl), trivial⟩, ⟨rfl, rfl, rfl, rfl, rfl, trivial⟩⟩
             ·simp only [zq]
              exact ⟨⟨rfl, rfl, rfl, rfl, rfl, rfl, rfl, rfl, rfl, rfl, rfl, rfl, rfl, rfl, rfl, rfl, rfl, rfl, trivial⟩, ⟨(z4 (by first | (rw [okT, if_pos hk0]) | (rw [okT, if_neg hk0, if_pos hk1]) | (rw [okT, if_neg hk0, if_neg hk1, if_pos hk2]) | (rw [okT, if_neg hk0, if_neg hk1, if_neg hk2, if_pos hk3]) | (rw [okT, if_neg hk0, if_neg hk1, if_neg hk2, if_neg hk3, if_pos hk4]) | (rw [okT, if_neg hk0, if_neg hk1, if_neg hk2, if_neg hk3, if_neg hk4, if_pos hk5]) | (rw [okT, if_neg hk0, if_neg hk1, if_neg hk2, if_neg hk3, if_neg hk4, if_neg hk5, if_pos hk6]) | (rw [okT, if_neg hk0, if_neg hk1, if_neg hk2, if_neg hk3, if_neg hk4, if_neg hk5, if_neg hk6]))), trivial⟩, ⟨rfl, rfl, rfl, rfl, rfl, trivial⟩⟩
            ·intro hc13
             have hk5 : ¬ y = 5 := by have := of_decide_eq_false hc13; omega
             refine (g4)<|(Qc)<|(g3) ?_
             refine zi rfl ?_ ?_
             ·intro hc14
              have hk6 : y = 6 := by have := of_decide_eq_true hc14; omega
              refine Qp ?_
              refine yd [(1, _), (3, _), (10, _), (12, _), (13, _), (39, _), (68, _), (69, _), (70, _), (86, _), (87, _), (88, _), (89, _), (90, _), (91, _), (110, _), (111, _), (112, _), (120, _), (121, _), (126, _), (127, _), (141, _), (142, _), (155, _), (156, _), (169, _), (170, _), (183, _), (184, _)] [(14, .bool ((hap (zj L (2 + i) p) 0 2 && hap (zj L (2 + i) p) 1 2) && !(hap (zj L (2 + i) p) (-1) y)))] [(0, some _), (1, oz2_1), (2, oz6_3), (3, some _), (50, ow)] ⟨rfl, rfl, rfl, rfl, rfl, rfl, rfl, rfl, rfl, rfl, rfl, rfl, rfl, rfl, rfl, rfl, rfl, rfl, rfl, rfl, rfl, rfl, rfl, rfl, rfl, rfl, rfl, rfl, rfl, rfl, trivial⟩ ⟨rfl, rfl, rfl, rfl, rfl, trivial⟩ ?_ ?_
              ·skip
               refine (Qm) ?_
               refine zg rfl rfl (Un 94) (zL 50 rfl ⟨[], trivial⟩) (zC (G := Option.toList ow) w4 (zj L (2 + i) p) 0 2 hf3_1.shows hlen) rfl rfl ?_
               refine (Qm) ?_
               refine zo (b := hap (zj L (2 + i) p) 0 2) (fun hb14 => ?_) (fun hb14 => ?_)
               ·skip
                refine (Qy)<|(g7) ?_
                refine zg rfl rfl (Un 94) (zL 50 rfl ⟨[], trivial⟩) (zC (G := Option.toList ow) w4 (zj L (2 + i) p) 1 2 hf3_1.shows hlen) rfl rfl ?_
                refine (QT)<|(Qm) ?_
                refine zo (b := hap (zj L (2 + i) p) 1 2) (fun hb15 => ?_) (fun hb15 => ?_)
                ·skip
                 refine (Qy)<|(gn) ?_
                 refine zg rfl rfl (Un 94) (zL 50 rfl ⟨[], trivial⟩) (zC (G := Option.toList ow) w4 (zj L (2 + i) p) (-1) y hf3_1.shows hlen) rfl rfl ?_
                 refine (Qy)<|(Q0)<|(QT)<|(g3) ?_
                 exact ⟨⟨rfl, rfl, rfl, rfl, rfl, rfl, rfl, rfl, rfl, rfl, rfl, rfl, rfl, rfl, rfl, rfl, rfl, rfl, rfl, rfl, rfl, rfl, rfl, rfl, rfl, rfl, rfl, rfl, rfl, rfl, trivial⟩, ⟨z4 (by rw [hb14, hb15] <;> rfl), trivial⟩, ⟨rfl, rfl, rfl, rfl, rfl, trivial⟩⟩
                ·skip
                 refine (gg)<|(QF)<|(g3) ?_
                 exact ⟨⟨rfl, rfl, rfl, rfl, rfl, rfl, rfl, rfl, rfl, rfl, rfl, rfl, rfl, rfl, rfl, rfl, rfl, rfl, rfl, rfl, rfl, rfl, rfl, rfl, rfl, rfl, rfl, rfl, rfl, rfl, trivial⟩, ⟨z4 (by rw [hb14, hb15] <;> rfl), trivial⟩, ⟨rfl, rfl, rfl, rfl, rfl, trivial⟩⟩
               ·skip
                refine (g5)<|(QF)<|(j5)<|(QF)<|(g3) ?_
                exact ⟨⟨rfl, rfl, rfl, rfl, rfl, rfl, rfl, rfl, rfl, rfl, rfl, rfl, rfl, rfl, rfl, rfl, rfl, rfl, rfl, rfl, rfl, rfl, rfl, rfl, rfl, rfl, rfl, rfl, rfl, rfl, trivial⟩, ⟨z4 (by rw [hb14] <;> rfl), trivial⟩, ⟨rfl, rfl, rfl, rfl, rfl, trivial⟩⟩
              ·simp only [zq]
               exact ⟨⟨rfl, rfl, rfl, rfl, rfl, rfl, rfl, rfl, rfl, rfl, rfl, rfl, rfl, rfl, rfl, rfl, rfl, rfl, trivial⟩, ⟨(z4 (by first | (rw [okT, if_pos hk0]) | (rw [okT, if_neg hk0, if_pos hk1]) | (rw [okT, if_neg hk0, if_neg hk1, if_pos hk2]) | (rw [okT, if_neg hk0, if_neg hk1, if_neg hk2, if_pos hk3]) | (rw [okT, if_neg hk0, if_neg hk1, if_neg hk2, if_neg hk3, if_pos hk4]) | (rw [okT, if_neg hk0, if_neg hk1, if_neg hk2, if_neg hk3, if_neg hk4, if_pos hk5]) | (rw [okT, if_neg hk0, if_neg hk1, if_neg hk2, if_neg hk3, if_neg hk4, if_neg hk5, if_pos hk6]) | (rw [okT, if_neg hk0, if_neg hk1, if_neg hk2, if_neg hk3, if_neg hk4, if_neg hk5, if_neg hk6]))), trivial⟩, ⟨rfl, rfl, rfl, rfl, rfl, trivial⟩⟩
             ·intro hc14
              have hk6 : ¬ y = 6 := by have := of_decide_eq_false hc14; omega
              refine Qk ?_
              exact ⟨⟨rfl, rfl, rfl, rfl, rfl, rfl, rfl, rfl, rfl, rfl, rfl, rfl, rfl, rfl, rfl, rfl, rfl, rfl, trivial⟩, ⟨(z4 (by first | (rw [okT, if_pos hk0]) | (rw [okT, if_neg hk0, if_pos hk1]) | (rw [okT, if_neg hk0, if_neg hk1, if_pos hk2]) | (rw [okT, if_neg hk0, if_neg hk1, if_neg hk2, if_pos hk3]) | (rw [okT, if_neg hk0, if_neg hk1, if_neg hk2, if_neg hk3, if_pos hk4]) | (rw [okT, if_neg hk0, if_neg hk1, if_neg hk2, if_neg hk3, if_neg hk4, if_pos hk5]) | (rw [okT, if_neg hk0, if_neg hk1, if_neg hk2, if_neg hk3, if_neg hk4, if_neg hk5, if_pos hk6]) | (rw [okT, if_neg hk0, if_neg hk1, if_neg hk2, if_neg hk3, if_neg hk4, if_neg hk5, if_neg hk6]))), trivial⟩, ⟨rfl, rfl, rfl, rfl, rfl, trivial⟩⟩
      ·simp only [zq]
       refine (ge)<|(Q0)<|Qn ?_
       refine zi rfl ?_ ?_
       ·intro hc15
        rw [Wn (i := 2 + i) (j := p) (by omega) hjl (by rw [hok]; simpa using hc15)]
        refine (gz) ?_
        first | rw [YD (fun s t hs ht => by by_cases h2 : s < 2; exact hf0_2 s t h2 ht; (obtain ⟨s, rfl⟩ : ∃ r, s = 2 + r := ⟨s - 2, by omega⟩); exact hf2_2 s t (by omega) (by rw [hLt s (by omega), List.length_map, List.length_append] at ht; simpa using ht))] | skip
        exact ⟨_, rfl, yt⟩
       ·intro hc15
        have hcf : vQ L (2 + i) p = true := by rw [hok]; simpa using hc15
        refine Qk<|Qp<|(gb)<|(Qm) ?_
        refine zA (arr .i64 2 (ev2 (xO late i, y))) (Ub 141 rfl) (Uu 141 rfl) zdt rfl (by kernel_rfl) rfl ?_
        refine yj 4 (arr .i64 2 (ev2 (xO late i, y))) (Uu 138 rfl) (Uz 141 rfl) (Ub 141 rfl) (by decide) (by decide) rfl (by kernel_rfl) rfl fun r5 => ?_
        refine yB 50 hf3_1 (z4G _ _ (xO late i, y)) rfl (zZ 4 rfl ⟨[], trivial⟩) (Uu 138) (Uz 141) (Uy 141) (Ub 141) (by rfl) rfl rfl (zca _) (by simp only [maxLen]; omega) (by omega) rfl fun v10_4 oz10_4 ho10_4 => ?_
        refine (jb) ?_
        refine QzL ⟨p + 1, _, _, rfl, rfl, rfl, by omega, (zy ho10_4 (by rw [ZG hjl, List.length_append, he]; rfl) (by rw [ZG hjl, ← z9f, he])), fun t ht => by by_cases e : t = p; (subst e; exact hcf); exact hf3_2 t (by omega)⟩ ⟨rfl, rfl, rfl, rfl, rfl, rfl, rfl, rfl, rfl, rfl, trivial⟩ ⟨rfl, rfl, rfl, rfl, rfl, trivial⟩ ?_
        omega
    ·have hz3 : p = ((us.getD i []).length + 1) := by omega
     refine Qe<|(gl) ?_
     refine QzL ⟨i + 1, _, _, rfl, rfl, rfl, by omega, (zy hf3_1 (by rw [hz3, hrow3]) (by rw [hz3, hrow3])), fun s t hs ht => by by_cases e : s = i; (subst e; exact hf3_2 t (by omega)); exact hf2_2 s t (by omega) ht⟩ ⟨rfl, rfl, rfl, rfl, rfl, rfl, trivial⟩ ⟨rfl, rfl, rfl, trivial⟩ ?_
     omega
  ·have hz2 : i = tvs.length := by omega
   refine Qe<|(gz) ?_
   first | rw [YD (fun s t hs ht => by by_cases h2 : s < 2; exact hf0_2 s t h2 ht; (obtain ⟨s, rfl⟩ : ∃ r, s = 2 + r := ⟨s - 2, by omega⟩); exact hf2_2 s t (by omega) (by rw [hLt s (by omega), List.length_map, List.length_append] at ht; simpa using ht))] | skip
   exact ⟨_, rfl, yt⟩
theorem z1X {G : Mem} (base : LN) (late : Bool) (vp v0 v1 vt : Value) (tvs : List Value) (p0 p1 : List Int) (ts : List (List Int)) (hvt : Shows G 1 vt tvs.length tvs) (hLI : zn G (v0 :: v1 :: tvs) (p0 :: p1 :: ts)) : Fp G 54 #[.agg (cells 6 [pV (sv base), pV (.bool late), pV vp, pV v0, pV v1, pV vt])] (ii (zM late p0 p1 ts)) := by
 have hl : tvs.length = ts.length := (zr (zr hLI)).1
 by_cases h0 : ts.length = 0
 ·rw [zM, if_pos (.inl h0)]; exact z6g base late vp v0 v1 vt tvs hvt (by omega)
 by_cases h5 : 5 < ts.length
 ·rw [zM, if_pos (.inr h5)]; exact z6K base late vp v0 v1 vt tvs hvt (by omega)
 by_cases hf : y4 (p0 :: p1 :: ts) = 0
 ·have hz := wU hf
  have e0 := Zo (hz p0 (by simp)).2
  have e1 := Zo (hz p1 (by simp)).2
  have et : ts = (ts.map fun t => t.map Int.toNat).map ci := by
   rw [List.map_map]
   conv => lhs; rw [← List.map_id ts]
   exact List.map_congr_left fun t ht => Zo (hz t (by simp [ht])).2
  rw [zM, if_neg (by omega), if_pos hf]
  refine z7w base late vp v0 v1 vt tvs (p0.map Int.toNat) (p1.map Int.toNat) (ts.map fun t => t.map Int.toNat) hvt (by rw [← e0, ← e1, ← et]; exact hLI) (by omega) (by omega) (by rw [← e0, ← e1, ← et]; exact hf) ?_ ?_ ?_
  ·rw [List.length_map]; exact (hz p0 (by simp)).1
  ·rw [List.length_map]; exact (hz p1 (by simp)).1
  ·intro u hu
   obtain ⟨t, ht, rfl⟩ := List.mem_map.1 hu
   rw [List.length_map]; exact (hz t (by simp [ht])).1
 ·rw [zM, if_neg (by omega), if_neg hf]
  exact z4o base late vp v0 v1 vt tvs p0 p1 ts _ hvt hLI (by omega) (by omega) rfl hf
theorem za3 (b : LN) (l : Bool) (vp v0 v1 vt : Value) (fi : Bool) (tn : Int) (dd : Bool) (y : SY) (r : RS) (ow : NN) (vk : Value) (us : Int) (p0 p1 : List Int) (tvs : List Value) (ts : List (List Int)) (hvt : Shows G 1 vt tvs.length tvs) (hLI : zn G (v0 :: v1 :: tvs) (p0 :: p1 :: ts)) (hbad : ((((dd || decide (tn < 0)) || decide ((tvs.length : Int) ≤ tn)) || decide (us < 0)) || decide (((zM l p0 p1 ts : Nat) : Int) ≠ 0)) = true) : Fp G 31 #[.agg (shC b l vp v0 v1 vt fi tn dd y ow r vk us)] (.tuple #[.bool false, .bool false]) := by
 refine Qf2 Tryz.func31 ?_
 refine (g4)<|(Qh 0) fun r1=>(g8)<|(gs) ?_
 refine yd [(0, _), (1, _), (2, _), (3, _)] [(31, .bool ((((dd || decide (tn < 0)) || decide ((tvs.length : Int) ≤ tn)) || decide (us < 0)) || decide (((zM l p0 p1 ts : Nat) : Int) ≠ 0)))] [(0, some _)] ⟨rfl, rfl, rfl, rfl, trivial⟩ ⟨rfl, trivial⟩ ?_ ?_
 ·skip
  refine (Qf 8)<|(QV 8 0)<|(Qm) ?_
  refine zo (b := dd) (fun hb0 => ?_) (fun hb0 => ?_)
  ·skip
   refine (gw)<|(QT)<|(j5)<|(gw)<|(QT)<|(Qm)<|(gw)<|(QT)<|(j5)<|(QT)<|Qn ?_
   exact ⟨⟨rfl, rfl, rfl, rfl, trivial⟩, ⟨z4 (by rw [hb0] <;> rfl), trivial⟩, ⟨rfl, trivial⟩⟩
  ·skip
   refine (Qy)<|(Qf 7)<|(Qy)<|(QV 7 0)<|(Qy)<|(Ql)<|(QF)<|(Qm) ?_
   refine zo (b := decide (tn < 0)) (fun hb1 => ?_) (fun hb1 => ?_)
   ·skip
    refine (gg)<|(gw)<|(QT)<|(Qm)<|(gw)<|(QT)<|(j5)<|(QT)<|Qn ?_
    exact ⟨⟨rfl, rfl, rfl, rfl, trivial⟩, ⟨z4 (by rw [hb0, hb1] <;> rfl), trivial⟩, ⟨rfl, trivial⟩⟩
   ·skip
    refine (Qy)<|(Qf 7)<|(Qy)<|(QV 7 0)<|(Qy)<|(Qf 0)<|(Qy)<|(Qf 5)<|(Qy)<|(QV 5 0)<|(Qy)<|(QC hvt)<|(Qy)<|(QE)<|(QF)<|(Qm) ?_
    refine zo (b := decide ((tvs.length : Int) ≤ tn)) (fun hb2 => ?_) (fun hb2 => ?_)
    ·skip
     refine (gw)<|(QT)<|(j5)<|(QT)<|Qn ?_
     exact ⟨⟨rfl, rfl, rfl, rfl, trivial⟩, ⟨z4 (by rw [hb0, hb1, hb2] <;> rfl), trivial⟩, ⟨rfl, trivial⟩⟩
    ·skip
     refine (Qy)<|(Qf 239)<|(Qy)<|(QV 22 0)<|(Qy)<|(Ql)<|(QF)<|(Qm) ?_
     refine zo (b := decide (us < 0)) (fun hb3 => ?_) (fun hb3 => ?_)
     ·skip
      refine (gg)<|(QT)<|Qn ?_
      exact ⟨⟨rfl, rfl, rfl, rfl, trivial⟩, ⟨z4 (by rw [hb0, hb1, hb2, hb3] <;> rfl), trivial⟩, ⟨rfl, trivial⟩⟩
     ·skip
      refine (Qy)<|(Qf 0)<|(Qy)<|(QlK 0 0 6)<|(Qy) ?_
      refine (Ca (z1X b l vp v0 v1 vt tvs p0 p1 ts hvt hLI))<|(Qy)<|(QN)<|(QF)<|Qn ?_
      exact ⟨⟨rfl, rfl, rfl, rfl, trivial⟩, ⟨z4 (by rw [hb0, hb1, hb2, hb3] <;> rfl), trivial⟩, ⟨rfl, trivial⟩⟩
 ·simp only [zq]
  refine zi rfl ?_ ?_
  ·intro hc0
   refine (g4)<|(h8) ?_
   exact ⟨_, _, rfl, yt, yt⟩
  ·intro hc0
   rw [hbad] at hc0
   cases hc0
theorem Yu (b : LN) (l : Bool) (vp v0 v1 vt : Value) (fi : Bool) (tq : Nat) (dd : Bool) (y : SY) (r : RS) (ow : NN) (vk : Value) (us : Int) (p0 p1 : List Int) (tvs : List Value) (ts : List (List Int)) (hvt : Shows G 1 vt tvs.length tvs) (hLI : zn G (v0 :: v1 :: tvs) (p0 :: p1 :: ts)) (hbad : ((((dd || decide (((tq : Nat) : Int) < 0)) || decide ((tvs.length : Int) ≤ ((tq : Nat) : Int))) || decide (us < 0)) || decide (((zM l p0 p1 ts : Nat) : Int) ≠ 0)) = false) : Fp G 31 #[.agg (shC b l vp v0 v1 vt fi ((tq : Nat) : Int) dd y ow r vk us)] (.tuple #[.bool ((decide (((tq % 2 : Nat) : Int) = 0) != l) == fi), .bool true]) := by
 refine Qf2 Tryz.func31 ?_
 refine (g4)<|(Qh 0) fun r1=>(g8)<|(gs) ?_
 refine yd [(0, _), (1, _), (2, _), (3, _)] [(31, .bool ((((dd || decide (((tq : Nat) : Int) < 0)) || decide ((tvs.length : Int) ≤ ((tq : Nat) : Int))) || decide (us < 0)) || decide (((zM l p0 p1 ts : Nat) : Int) ≠ 0)))] [(0, some _)] ⟨rfl, rfl, rfl, rfl, trivial⟩ ⟨rfl, trivial⟩ ?_ ?_
 ·skip
  refine (Qf 8)<|(QV 8 0)<|(Qm) ?_
  refine zo (b := dd) (fun hb0 => ?_) (fun hb0 => ?_)
  ·skip
   refine (gw)<|(QT)<|(j5)<|(gw)<|(QT)<|(Qm)<|(gw)<|(QT)<|(j5)<|(QT)<|Qn ?_
   exact ⟨⟨rfl, rfl, rfl, rfl, trivial⟩, ⟨z4 (by rw [hb0] <;> rfl), trivial⟩, ⟨rfl, trivial⟩⟩
  ·skip
   refine (Qy)<|(Qf 7)<|(Qy)<|(QV 7 0)<|(Qy)<|(Ql)<|(QF)<|(Qm) ?_
   refine zo (b := decide (((tq : Nat) : Int) < 0)) (fun hb1 => ?_) (fun hb1 => ?_)
   ·skip
    refine (gg)<|(gw)<|(QT)<|(Qm)<|(gw)<|(QT)<|(j5)<|(QT)<|Qn ?_
    exact ⟨⟨rfl, rfl, rfl, rfl, trivial⟩, ⟨z4 (by rw [hb0, hb1] <;> rfl), trivial⟩, ⟨rfl, trivial⟩⟩
   ·skip
    refine (Qy)<|(Qf 7)<|(Qy)<|(QV 7 0)<|(Qy)<|(Qf 0)<|(Qy)<|(Qf 5)<|(Qy)<|(QV 5 0)<|(Qy)<|(QC hvt)<|(Qy)<|(QE)<|(QF)<|(Qm) ?_
    refine zo (b := decide ((tvs.length : Int) ≤ ((tq : Nat) : Int))) (fun hb2 => ?_) (fun hb2 => ?_)
    ·skip
     refine (gw)<|(QT)<|(j5)<|(QT)<|Qn ?_
     exact ⟨⟨rfl, rfl, rfl, rfl, trivial⟩, ⟨z4 (by rw [hb0, hb1, hb2] <;> rfl), trivial⟩, ⟨rfl, trivial⟩⟩
    ·skip
     refine (Qy)<|(Qf 239)<|(Qy)<|(QV 22 0)<|(Qy)<|(Ql)<|(QF)<|(Qm) ?_
     refine zo (b := decide (us < 0)) (fun hb3 => ?_) (fun hb3 => ?_)
     ·skip
      refine (gg)<|(QT)<|Qn ?_
      exact ⟨⟨rfl, rfl, rfl, rfl, trivial⟩, ⟨z4 (by rw [hb0, hb1, hb2, hb3] <;> rfl), trivial⟩, ⟨rfl, trivial⟩⟩
     ·skip
      refine (Qy)<|(Qf 0)<|(Qy)<|(QlK 0 0 6)<|(Qy) ?_
      refine (Ca (z1X b l vp v0 v1 vt tvs p0 p1 ts hvt hLI))<|(Qy)<|(QN)<|(QF)<|Qn ?_
      exact ⟨⟨rfl, rfl, rfl, rfl, trivial⟩, ⟨z4 (by rw [hb0, hb1, hb2, hb3] <;> rfl), trivial⟩, ⟨rfl, trivial⟩⟩
 ·simp only [zq]
  refine zi rfl ?_ ?_
  ·intro hc0
   rw [hbad] at hc0
   cases hc0
  ·intro hc0
   refine Qk<|(g4)<|(Qf 7)<|(QV 7 0)<|(Q4 2)<|(Qc)<|(g3)<|(gs)<|(Qf 0)<|(Qf 1)<|(QV 1 0)<|Qn ?_
   refine zi rfl ?_ ?_
   ·intro hc1
    obtain rfl : l = true := hc1
    rw [show ∀ x : Bool, (x != true) = !x by decide]
    refine (je)<|(Q0)<|(gm)<|(Qf 6)<|(QV 6 0) ?_
    refine XU (Uu 4) rfl rfl rfl ?_
    refine (h8) ?_
    exact ⟨_, _, rfl, yt, yt⟩
   ·intro hc1
    obtain rfl : l = false := hc1
    rw [show ∀ x : Bool, (x != false) = x by decide]
    refine Qk<|(g6)<|(Qf 6)<|(QV 6 0) ?_
    refine XU (Uu 4) rfl rfl rfl ?_
    refine (h8) ?_
    exact ⟨_, _, rfl, yt, yt⟩
set_option maxRecDepth 20000 in
theorem z66 (hI : IVB ∈ G) (hP : (⟨2, arr .u64 16 (d16 PP), 120⟩ : Blk) ∈ G) (b : LN) (l : Bool) (vp v0 v1 vt : Value) (fi : Bool) (tq : Nat) (dd : Bool) (y : SY) (r : RS) (ow : NN) (vk : Value) (us : Nat) (ps : List (NN)) (hk : Shows G 32 vk ps.length (psC ps)) (hp : okP ps) (h1 : xU vp v0 v1 vt vk) (hy : okY y) (hr : okR r) (ho : B32 ow) (sc : NN) (hs : B32 sc) (q : LN) (tvs : List Value) (hvt : Shows G 1 vt tvs.length tvs) (htl : tq < tvs.length) (hq : Shows G 1 (tvs.getD tq undef) q.length ((ci q).map iv)) (hq7 : ∀ x ∈ q, 1 ≤ x ∧ x ≤ 7) (hq6 : q.length ≤ 6) (p0 p1 : List Int) (ts : List (List Int)) (hLI : zn G (v0 :: v1 :: tvs) (p0 :: p1 :: ts)) (vx : Value) (tx : LN) (hvt2 : Sh G vx tx) (htb : By tx) (hlt : tx.length ≤ 400) (hbad : ((((dd || decide (((tq : Nat) : Int) < 0)) || decide ((tvs.length : Int) ≤ ((tq : Nat) : Int))) || decide (((us : Nat) : Int) < 0)) || decide (((zM l p0 p1 ts : Nat) : Int) ≠ 0)) = false) (hmine : ((decide (((tq % 2 : Nat) : Int) = 0) != l) == fi) = true) (htz : tq < 1000000) (w : Nat × SS × LN) (hw : wR fi ow ps sc q (y, r, us) tx = w) (h0 : w.1 = 0) : Fq G [] 10 #[.agg (shC b l vp v0 v1 vt fi ((tq : Nat) : Int) dd y ow r vk ((us : Nat) : Int)), .agg (arr .u8 32 sc), vx] (fun v l1 nw => l1 = [] ∧ ∃ v', v = .tuple #[.agg (shC b l vp v0 v1 vt fi ((tq + 1 : Nat) : Int) dd w.2.1.1 ow w.2.1.2.1 vk ((w.2.1.2.2 : Nat) : Int)), v', ii 0] ∧ OwnS 5 1 v' w.2.2.length (w.2.2.map by8) nw) := by
 refine QfO Tryz.func10 ?_
 refine (g4)<|(Qh 0) fun r1=>(Qh 1) fun r2=>(QH 2) fun r3=>(g8)<|Qs<|(gd) ?_
 refine (Ca (Yu b l vp v0 v1 vt fi tq dd y r ow vk ((us : Nat) : Int) p0 p1 tvs ts hvt hLI hbad)) ?_
 refine z6 (show _ = Value.tuple #[.bool true, .bool true] by rw [hmine]) ?_
 refine (gi)<|(g8)<|(g6)<|(Q0)<|(gn)<|(Q0)<|(QF)<|(go)<|(ge)<|(QC hvt2)<|(QG)<|(j8)<|(gd)<|(QH 3) fun r4=>?_
 refine z5 (i := 3) (Uz 37) rfl rfl (z3 _ _) (z7 ⟨fun _ => rfl, fun _ => rfl, fun _ => h1.1, fun _ => h1.2.1, fun _ => h1.2.2.1, fun _ => h1.2.2.2.1, fun _ => rfl, fun _ => rfl, fun _ => rfl, fun _ => rfl, fun _ => rfl, fun _ => rfl, fun _ => rfl, fun _ => rfl, fun _ => rfl, fun _ => rfl, fun _ => rfl, fun _ => rfl, fun _ => rfl, fun _ => rfl, fun _ => rfl, fun _ => h1.2.2.2.2, fun _ => rfl, trivial⟩) rfl za (.inl rfl) ?_
 refine (gj) ?_
 refine xB (v := sv []) rfl rfl ?_
 refine Qn<|(gs)<|(Qf 0)<|(jd)<|(Qf 7)<|(QV 7 0) ?_
 refine yf hvt (Uu 27) (Uz 25) rfl rfl (by omega) rfl ?_
 refine (QS) ?_
 refine zS hvt ze (Uu 25) rfl rfl (xz (by omega)) rfl ?_
 refine (QC hq)<|(Qm)<|Qn<|Qb ?_
 refine QzK [(2, _), (3, _), (4, _), (6, _), (11, _), (45, _), (46, _)] [(1, _), (2, _), (3, _)] (fun kk E m => ∃ (i : Nat) (y1 : SY) (r1v : RS) (u1 : Nat) (out : List Nat), kk = q.length - i ∧ E = [(12, (sv out)), (47, ii i)] ∧ m = [(0, (some ⟨r1, shC b l vp v0 v1 vt fi ((tq : Nat) : Int) dd y1 ow r1v vk ((u1 : Nat) : Int), 37⟩))] ∧ (i ≤ q.length) ∧ (okS (y1, r1v, u1)) ∧ (wi fi ow ps sc q (y, r, us) [] = wi fi ow ps sc (q.drop i) (y1, r1v, u1) out) ∧ (out.length ≤ 48 * i) ∧ (∀ x ∈ out, x < 256)) ⟨0, y, r, us, [], rfl, rfl, rfl, by omega, ⟨hy, hr⟩, rfl, (by simp), (fun x hx => by cases hx)⟩ ⟨rfl, rfl, rfl, rfl, rfl, rfl, rfl, rfl, rfl, trivial⟩ ⟨rfl, rfl, rfl, rfl, trivial⟩ ?_
 rintro kk E m ⟨i, y1, r1v, u1, out, rfl, rfl, rfl, hf0_0, hf0_1, hf0_2, hf0_3, hf0_4⟩
 simp only [zq, zx]
 refine (gq) ?_
 refine (Qcd) (fun hc2=>?_) fun hc2=>?_
 ·have hc2 : i < q.length := by omega
  refine Qk<|Qs<|Qb<|(g4) ?_
  refine yf hq (Uu 25) (Uz 3) rfl rfl (by omega) rfl ?_
  refine (QS) ?_
  refine zS hq ze (Uu 3) rfl rfl (VY (by omega)) rfl ?_
  refine (g3) ?_
  have hx9 := z6o hq7 (show i < q.length by omega)
  obtain ⟨z, hz⟩ : ∃ z, vS fi ow ps sc (q.getD i 0) (y1, r1v, u1) = z := ⟨_, rfl⟩
  have hzl : z.2.2.length ≤ 48 := by rw [← hz]; exact XI
  have hzb : ∀ x ∈ z.2.2, x < 256 := by rw [← hz]; exact z2Y
  have hst : z.1 ≠ 0 → w = (z.1, z.2.1, []) := fun he => by rw [← hw]; exact YX (hf0_2.trans (WV (by omega) hz he)) he
  have he : z.1 = 0 := Classical.byContradiction fun he => by rw [hst he] at h0; exact he h0
  have hww : (z.1 = 0 ∧ y1.1 = true) ∨ (z.1 = 0 ∧ y1.1 = false) := by cases hh : y1.1; exact .inr ⟨he, rfl⟩; exact .inl ⟨he, rfl⟩
  refine (gc)<|(ji)<|Qs ?_
  rcases (by omega : q.getD i 0 = 1 ∨ q.getD i 0 = 2 ∨ 3 ≤ q.getD i 0) with ht1 | ht1 | ht1
  ·skip
   refine Qp<|(Qc)<|(Qat)<|(g3)<|(Qct)<|Qs ?_
   have hz1 : z = (0, (xk (npk ps) y1 (zQ sc), (sc, true, r1v.2.2), u1), ky (zQ sc)) := (by rw [← hz, ht1]; exact z68); have he : z.1 = 0 := (by rw [hz1])
   ·skip
    refine Qp<|(Qd 1) ?_
    refine (Ca ((ZB (G := G) sc hs).more (in1 hP))) ?_
    refine (Av (Value.agg (arr .u8 32 (zQ sc))))<|(QH 4) fun r5=>(Qt 4)<|(gj)<|(Qd 1)<|(Qf 139)<|(QtC 0 15) ?_
    refine yM (c' := shC b l vp v0 v1 vt fi ((tq : Nat) : Int) dd y1 ow (sc, r1v.2.1, r1v.2.2) vk ((u1 : Nat) : Int)) rfl ?_
    refine (Qf 171)<|(QtV 0 16) ?_
    refine yM (c' := shC b l vp v0 v1 vt fi ((tq : Nat) : Int) dd y1 ow (sc, true, r1v.2.2) vk ((u1 : Nat) : Int)) rfl ?_
    refine Qn<|(g6)<|(Qd 4) ?_
    refine (Ca (xe (zQ sc))) ?_
    refine (Av (sv (ky (zQ sc)))) ?_
    refine zX rfl rfl rfl (by rw [WT]; omega) ?_
    refine z6 (show _ = sv (out ++ z.2.2) by rw [hz1]) ?_
    refine (g3)<|Qp<|(QD 0)<|(Qd 4) ?_
    refine (Ca (Xo hI b l vp v0 v1 vt fi ((tq : Nat) : Int) dd y1 (sc, true, r1v.2.2) ow vk ((u1 : Nat) : Int) (zQ sc) ps hk h1 hf0_1.1 (xr sc))) ?_
    refine z6 (show _ = .agg (shC b l vp v0 v1 vt fi ((tq : Nat) : Int) dd z.2.1.1 ow z.2.1.2.1 vk ((z.2.1.2.2 : Nat) : Int)) by rw [hz1]) ?_
    refine z5 (i := 0) (Uz 37) rfl rfl (z3 _ _) (z7 ⟨fun _ => rfl, fun _ => rfl, fun _ => h1.1, fun _ => h1.2.1, fun _ => h1.2.2.1, fun _ => h1.2.2.2.1, fun _ => rfl, fun _ => rfl, fun _ => rfl, fun _ => rfl, fun _ => rfl, fun _ => rfl, fun _ => rfl, fun _ => rfl, fun _ => rfl, fun _ => rfl, fun _ => rfl, fun _ => rfl, fun _ => rfl, fun _ => rfl, fun _ => rfl, fun _ => h1.2.2.2.2, fun _ => rfl, trivial⟩) rfl za (.inl rfl) ?_
    refine Qn<|(g6)<|(QN)<|(j8)<|(gl) ?_
    refine QzL ⟨i + 1, _, _, _, _, rfl, rfl, rfl, by omega, (by rw [← hz]; exact xA hf0_1 hs), (by have h9 := hf0_2.trans (xJ (by omega) (hz.trans (show z = (0, z.2.1, z.2.2) from Prod.ext he rfl))); first | exact h9 | (rw [hzn, List.append_nil] at h9; exact h9)), (by first | (rw [List.length_append]; omega) | omega), (by first | exact hf0_4 | exact fun x hx => by rcases List.mem_append.1 hx with h | h; exact hf0_4 x h; exact hzb x h)⟩ ⟨rfl, rfl, rfl, rfl, rfl, rfl, rfl, rfl, rfl, trivial⟩ ⟨rfl, rfl, rfl, rfl, trivial⟩ ?_
    omega
  ·skip
   refine Qp<|(Qc)<|(Qaf)<|(g3)<|(Qcf)<|(g4)<|(Qc)<|(Qat)<|(g3)<|(Qct)<|Qs ?_
   ((obtain ⟨e9, he9⟩ : ∃ e, yL y1 (ky (zQ ow)) = e := ⟨_, rfl⟩); have hzz : z = (e9.1, (e9.2.1, r1v, u1), e9.2.2) := (by rw [← hz, ht1]; exact z6i he9); have hzs : yL y1 (ky (zQ ow)) = (z.1, z.2.1.1, z.2.2) := (by subst hzz; exact he9); have hzr : z.2.1.2 = (r1v, u1) := (by subst hzz; rfl)); rcases hww with ⟨he, hh⟩ | ⟨he, hh⟩
   ·skip
    refine Qp<|(Qf 107)<|(Qv 14 0) ?_
    refine (Ca ((ZB (G := G) ow ho).more (in1 hP))) ?_
    refine (Av (Value.agg (arr .u8 32 (zQ ow))))<|(QH 4) fun r5=>(Qt 4)<|Qn<|(gc)<|Qs<|(Qq ⟨[], 4, [], none, none⟩)<|(gy) ?_
    refine (Av (SVy y1))<|(Qsa 0 32) ?_
    refine zG 5 (fun v => .tuple #[SVy z.2.1.1, v, ii 0]) rfl rfl (Un 33) (zf ze (zZ 4 rfl ⟨[], trivial⟩)) ((Yj (G := G ++ [(⟨r5, arr .u8 32 (zQ ow), 30⟩ : Blk)]) (List.mem_append_left _ hI) y1 hf0_1.1 _ (ky (zQ ow)) ((y6 _ (zQ ow) _).mono (fun x h => List.mem_append_right _ h)) (xK (xr ow)) (z.1, z.2.1.1, z.2.2) hzs).2.1 he hh) (by simp only [maxLen]; omega) (by rw [List.length_map, Nat.mul_one]) rfl rfl fun v8_1 oz8_1 ho8_1 => ?_
    refine (jn)<|(j7) ?_
    refine yM (c' := shC b l vp v0 v1 vt fi ((tq : Nat) : Int) dd z.2.1.1 ow z.2.1.2.1 vk ((z.2.1.2.2 : Nat) : Int)) (by rw [hzr]; rfl) ?_
    refine (g8)<|(g6)<|(Qc)<|(Qar)<|(gv)<|Qp<|(gb) ?_
    refine zE (l := z.2.2) ho8_1.shows (zL 5 rfl ⟨[], trivial⟩) (Uu 22) (Uu 5) (Uu 9) rfl rfl rfl ?_
    refine zX rfl rfl rfl (by omega) ?_
    refine (jm)<|(j8)<|(gl) ?_
    refine QzL ⟨i + 1, _, _, _, _, rfl, rfl, rfl, by omega, (by rw [← hz]; exact xA hf0_1 hs), (by have h9 := hf0_2.trans (xJ (by omega) (hz.trans (show z = (0, z.2.1, z.2.2) from Prod.ext he rfl))); first | exact h9 | (rw [hzn, List.append_nil] at h9; exact h9)), (by first | (rw [List.length_append]; omega) | omega), (by first | exact hf0_4 | exact fun x hx => by rcases List.mem_append.1 hx with h | h; exact hf0_4 x h; exact hzb x h)⟩ ⟨rfl, rfl, rfl, rfl, rfl, rfl, rfl, rfl, rfl, trivial⟩ ⟨rfl, rfl, rfl, rfl, trivial⟩ ?_
    omega
   ·skip
    refine Qp<|(Qf 107)<|(Qv 14 0) ?_
    refine (Ca ((ZB (G := G) ow ho).more (in1 hP))) ?_
    refine (Av (Value.agg (arr .u8 32 (zQ ow))))<|(QH 4) fun r5=>(Qt 4)<|Qn<|(gc)<|(gr)<|(gy) ?_
    refine (Av (SVy y1))<|(Qsa 0 32) ?_
    refine zg rfl rfl (Un 33) (zf ze (zZ 4 rfl ⟨[], trivial⟩)) ((Yj (G := G ++ [(⟨r5, arr .u8 32 (zQ ow), 30⟩ : Blk)]) (List.mem_append_left _ hI) y1 hf0_1.1 _ (ky (zQ ow)) ((y6 _ (zQ ow) _).mono (fun x h => List.mem_append_right _ h)) (xK (xr ow)) (z.1, z.2.1.1, z.2.2) hzs).2.2 he hh).2 rfl rfl ?_
    refine (jn)<|(j7) ?_
    refine yM (c' := shC b l vp v0 v1 vt fi ((tq : Nat) : Int) dd z.2.1.1 ow z.2.1.2.1 vk ((z.2.1.2.2 : Nat) : Int)) (by rw [hzr]; rfl) ?_
    refine (g8)<|(g6)<|(Qc)<|(Qar)<|(gv)<|Qp<|(gb) ?_
    refine zE (l := z.2.2) (show Shows [(⟨r5, arr .u8 32 (zQ ow), 30⟩ : Blk)] 1 _ z.2.2.length (z.2.2.map by8) by rw [((Yj (G := G ++ [(⟨r5, arr .u8 32 (zQ ow), 30⟩ : Blk)]) (List.mem_append_left _ hI) y1 hf0_1.1 _ (ky (zQ ow)) ((y6 _ (zQ ow) _).mono (fun x h => List.mem_append_right _ h)) (xK (xr ow)) (z.1, z.2.1.1, z.2.2) hzs).2.2 he hh).1]; exact y6 _ (zQ ow) _) (zZ 4 rfl ⟨[], trivial⟩) (Uu 22) (Uu 5) (Uu 9) rfl rfl rfl ?_
    refine zX rfl rfl rfl (by omega) ?_
    refine (jm)<|(j8)<|(gl) ?_
    refine QzL ⟨i + 1, _, _, _, _, rfl, rfl, rfl, by omega, (by rw [← hz]; exact xA hf0_1 hs), (by have h9 := hf0_2.trans (xJ (by omega) (hz.trans (show z = (0, z.2.1, z.2.2) from Prod.ext he rfl))); first | exact h9 | (rw [hzn, List.append_nil] at h9; exact h9)), (by first | (rw [List.length_append]; omega) | omega), (by first | exact hf0_4 | exact fun x hx => by rcases List.mem_append.1 hx with h | h; exact hf0_4 x h; exact hzb x h)⟩ ⟨rfl, rfl, rfl, rfl, rfl, rfl, rfl, rfl, rfl, trivial⟩ ⟨rfl, rfl, rfl, rfl, trivial⟩ ?_
    omega
  ·skip
   refine Qp<|(Qc)<|(Qaf)<|(g3)<|(Qcf)<|(g4)<|(Qc)<|(Qaf)<|(g3)<|(Qcf) ?_
   ((obtain ⟨e9, he9⟩ : ∃ e, xL fi ow ps (q.getD i 0) (y1, r1v, u1) = e := ⟨_, rfl⟩); have hzz : z = (e9.1, e9.2, []) := (by rw [← hz]; exact z6I ht1 he9); have hzx : xL fi ow ps (q.getD i 0) (y1, r1v, u1) = (z.1, z.2.1) := (by subst hzz; exact he9); have hzn : z.2.2 = [] := (by rw [hzz]))
   ·skip
    refine Qp<|(QD 0)<|(Qm) ?_
    refine (Ca (z0O hI hP b l vp v0 v1 vt fi ((tq : Nat) : Int) dd y1 r1v ow vk u1 ps hk hp h1 hf0_1.1 hf0_1.2 ho (q.getD i 0) (z.1, z.2.1) hzx))<|(gi) ?_
    refine z5 (i := 0) (Uz 37) rfl rfl (z3 _ _) (z7 ⟨fun _ => rfl, fun _ => rfl, fun _ => h1.1, fun _ => h1.2.1, fun _ => h1.2.2.1, fun _ => h1.2.2.2.1, fun _ => rfl, fun _ => rfl, fun _ => rfl, fun _ => rfl, fun _ => rfl, fun _ => rfl, fun _ => rfl, fun _ => rfl, fun _ => rfl, fun _ => rfl, fun _ => rfl, fun _ => rfl, fun _ => rfl, fun _ => rfl, fun _ => rfl, fun _ => h1.2.2.2.2, fun _ => rfl, trivial⟩) rfl za (.inl rfl) ?_
    refine (jm)<|(j8)<|(gl) ?_
    refine QzL ⟨i + 1, _, _, _, _, rfl, rfl, rfl, by omega, (by rw [← hz]; exact xA hf0_1 hs), (by have h9 := hf0_2.trans (xJ (by omega) (hz.trans (show z = (0, z.2.1, z.2.2) from Prod.ext he rfl))); first | exact h9 | (rw [hzn, List.append_nil] at h9; exact h9)), (by first | (rw [List.length_append]; omega) | omega), (by first | exact hf0_4 | exact fun x hx => by rcases List.mem_append.1 hx with h | h; exact hf0_4 x h; exact hzb x h)⟩ ⟨rfl, rfl, rfl, rfl, rfl, rfl, rfl, rfl, rfl, trivial⟩ ⟨rfl, rfl, rfl, rfl, trivial⟩ ?_
    omega
 ·have hz0 : i = q.length := by omega
  have hrun := hf0_2.trans (VX hz0)
  obtain ⟨e2, he2⟩ : ∃ e, yL y1 tx = e := ⟨_, rfl⟩
  have hfin : w = (e2.1, (e2.2.1, r1v, u1), out ++ e2.2.2) := by rw [← hw]; exact V1 hrun he2
  have hel : e2.2.2.length ≤ tx.length + 16 := by rw [← he2]; exact wE y1 tx
  have heb : ∀ x ∈ e2.2.2, x < 256 := by rw [← he2]; exact Wd htb
  subst hfin
  refine Qe<|Qs ?_
  rcases (by cases hh : y1.1; exact .inr rfl; exact .inl rfl : y1.1 = true ∨ y1.1 = false) with hh | hh
  ·skip
   refine QR ⟨[], 4, [], none, none⟩<|(gy) ?_
   refine (Av (SVy y1))<|(Qm) ?_
   refine zG 4 (fun v => .tuple #[SVy e2.2.1, v, ii 0]) rfl rfl (Un 33) ze ((Yj hI y1 hf0_1.1 vx tx hvt2 htb e2 he2).2.1 h0 hh) (by simp only [maxLen]; omega) (by rw [List.length_map, Nat.mul_one]) rfl rfl fun v5_1 oz5_1 ho5_1 => ?_
   refine (jn)<|(QH 5) fun r6=>(QW 5)<|(ja)<|(QN)<|(j8)<|(g4)<|(QD 5)<|(j7) ?_
   refine yM (c' := shC b l vp v0 v1 vt fi ((tq : Nat) : Int) dd e2.2.1 ow r1v vk ((u1 : Nat) : Int)) rfl ?_
   refine (gj)<|(Qf 7)<|(QV 7 0)<|(Q2 1)<|(Qf 7)<|(QtV 0 7) ?_
   refine yM (c' := shC b l vp v0 v1 vt fi ((tq + 1 : Nat) : Int) dd e2.2.1 ow r1v vk ((u1 : Nat) : Int)) rfl ?_
   refine Qn<|Qs ?_
   refine z86 ⟨[r3], 1, [22], none, none⟩ [0, 1, 2, 3, 4, 6, 5, 7, 8] z87 (by kernel_rfl) ?_
   refine zF (i := 0) (Uu 37) rfl (Uz 37) rfl rfl (z3 _ _) rfl ⟨[2], rfl, rfl, trivial⟩ ?_
   refine (gb) ?_
   refine zE (l := e2.2.2) ho5_1.shows (zL 4 rfl ⟨[2], rfl, rfl, trivial⟩) (Uu 22) (Uu 5) (Uu 9) rfl rfl rfl ?_
   refine zX rfl rfl rfl (by omega) ?_
   refine z5 (i := 2) (Uz 37) rfl rfl (z3 _ _) (z7 ⟨fun _ => rfl, fun _ => rfl, fun _ => h1.1, fun _ => h1.2.1, fun _ => h1.2.2.1, fun _ => h1.2.2.2.1, fun _ => rfl, fun _ => rfl, fun _ => rfl, fun _ => rfl, fun _ => rfl, fun _ => rfl, fun _ => rfl, fun _ => rfl, fun _ => rfl, fun _ => rfl, fun _ => rfl, fun _ => rfl, fun _ => rfl, fun _ => rfl, fun _ => rfl, fun _ => h1.2.2.2.2, fun _ => rfl, trivial⟩) rfl za (.inr (by simp)) ?_
   refine yU 6 (Uu 9) (Uu 22) (Uu 5) rfl (fun x hx => by rcases List.mem_append.1 hx with h | h; exact hf0_4 x h; exact heb x h) (by rw [List.length_append]; simp only [maxLen]; omega) rfl rfl fun v6_2 oz6_2 ho6_2 => ?_
   refine (h8) ?_
   exact ⟨_, _, _, _, _, 6, rfl, yb 2, yt, yt, (zy ho6_2 rfl rfl), rfl⟩
  ·skip
   refine Qp<|(gy) ?_
   refine (Av (SVy y1))<|(Qm) ?_
   refine (Ca ((Yj hI y1 hf0_1.1 vx tx hvt2 htb e2 he2).2.2 h0 hh).2)<|(jn)<|(QH 4) fun r5=>(QW 4)<|(ja)<|(QN)<|(j8)<|(g4)<|(QD 4)<|(j7) ?_
   refine yM (c' := shC b l vp v0 v1 vt fi ((tq : Nat) : Int) dd e2.2.1 ow r1v vk ((u1 : Nat) : Int)) rfl ?_
   refine (gj)<|(Qf 7)<|(QV 7 0)<|(Q2 1)<|(Qf 7)<|(QtV 0 7) ?_
   refine yM (c' := shC b l vp v0 v1 vt fi ((tq + 1 : Nat) : Int) dd e2.2.1 ow r1v vk ((u1 : Nat) : Int)) rfl ?_
   refine Qn<|Qs ?_
   refine z86 ⟨[r3], 1, [22], none, none⟩ [0, 1, 2, 3, 4, 6, 5, 7, 8] z87 (by kernel_rfl) ?_
   refine zF (i := 0) (Uu 37) rfl (Uz 37) rfl rfl (z3 _ _) rfl ⟨[2], rfl, rfl, trivial⟩ ?_
   refine (gb) ?_
   refine zE (l := e2.2.2) (show Shows G 1 vx e2.2.2.length (e2.2.2.map by8) by rw [((Yj hI y1 hf0_1.1 vx tx hvt2 htb e2 he2).2.2 h0 hh).1]; exact hvt2) ze (Uu 22) (Uu 5) (Uu 9) rfl rfl rfl ?_
   refine zX rfl rfl rfl (by omega) ?_
   refine z5 (i := 2) (Uz 37) rfl rfl (z3 _ _) (z7 ⟨fun _ => rfl, fun _ => rfl, fun _ => h1.1, fun _ => h1.2.1, fun _ => h1.2.2.1, fun _ => h1.2.2.2.1, fun _ => rfl, fun _ => rfl, fun _ => rfl, fun _ => rfl, fun _ => rfl, fun _ => rfl, fun _ => rfl, fun _ => rfl, fun _ => rfl, fun _ => rfl, fun _ => rfl, fun _ => rfl, fun _ => rfl, fun _ => rfl, fun _ => rfl, fun _ => h1.2.2.2.2, fun _ => rfl, trivial⟩) rfl za (.inr (by simp)) ?_
   refine yU 5 (Uu 9) (Uu 22) (Uu 5) rfl (fun x hx => by rcases List.mem_append.1 hx with h | h; exact hf0_4 x h; exact heb x h) (by rw [List.length_append]; simp only [maxLen]; omega) rfl rfl fun v6_1 oz6_1 ho6_1 => ?_
   refine (h8) ?_
   exact ⟨_, _, _, _, _, 5, rfl, yb 2, yt, yt, (zy ho6_1 rfl rfl), rfl⟩
set_option maxRecDepth 20000 in
theorem z3S (hI : IVB ∈ G) (hP : (⟨2, arr .u64 16 (d16 PP), 120⟩ : Blk) ∈ G) (b : LN) (l : Bool) (vp v0 v1 vt : Value) (fi : Bool) (tq : Nat) (dd : Bool) (y : SY) (r : RS) (ow : NN) (vk : Value) (us : Nat) (ps : List (NN)) (hk : Shows G 32 vk ps.length (psC ps)) (hp : okP ps) (h1 : xU vp v0 v1 vt vk) (hy : okY y) (hr : okR r) (ho : B32 ow) (sc : NN) (hs : B32 sc) (q : LN) (tvs : List Value) (hvt : Shows G 1 vt tvs.length tvs) (htl : tq < tvs.length) (hq : Shows G 1 (tvs.getD tq undef) q.length ((ci q).map iv)) (hq7 : ∀ x ∈ q, 1 ≤ x ∧ x ≤ 7) (hq6 : q.length ≤ 6) (p0 p1 : List Int) (ts : List (List Int)) (hLI : zn G (v0 :: v1 :: tvs) (p0 :: p1 :: ts)) (vx : Value) (tx : LN) (hvt2 : Sh G vx tx) (htb : By tx) (hlt : tx.length ≤ 400) (hbad : ((((dd || decide (((tq : Nat) : Int) < 0)) || decide ((tvs.length : Int) ≤ ((tq : Nat) : Int))) || decide (((us : Nat) : Int) < 0)) || decide (((zM l p0 p1 ts : Nat) : Int) ≠ 0)) = false) (hmine : ((decide (((tq % 2 : Nat) : Int) = 0) != l) == fi) = true) (htz : tq < 1000000) (w : Nat × SS × LN) (hw : wR fi ow ps sc q (y, r, us) tx = w) (h0 : w.1 ≠ 0) : Fp G 10 #[.agg (shC b l vp v0 v1 vt fi ((tq : Nat) : Int) dd y ow r vk ((us : Nat) : Int)), .agg (arr .u8 32 sc), vx] (.tuple #[.agg (shC b l vp v0 v1 vt fi ((tq : Nat) : Int) true y ow r vk ((us : Nat) : Int)), yg, ii w.1]) := by
 have _u1 := htz
 refine Qf3 Tryz.func10 ?_
 refine (g4)<|(Qh 0) fun r1=>(Qh 1) fun r2=>(QH 2) fun r3=>(g8)<|Qs<|(gd) ?_
 refine (Ca (Yu b l vp v0 v1 vt fi tq dd y r ow vk ((us : Nat) : Int) p0 p1 tvs ts hvt hLI hbad)) ?_
 refine z6 (show _ = Value.tuple #[.bool true, .bool true] by rw [hmine]) ?_
 refine (gi)<|(g8)<|(g6)<|(Q0)<|(gn)<|(Q0)<|(QF)<|(go)<|(ge)<|(QC hvt2)<|(QG)<|(j8)<|(gd)<|(QH 3) fun r4=>?_
 refine z5 (i := 3) (Uz 37) rfl rfl (z3 _ _) (z7 ⟨fun _ => rfl, fun _ => rfl, fun _ => h1.1, fun _ => h1.2.1, fun _ => h1.2.2.1, fun _ => h1.2.2.2.1, fun _ => rfl, fun _ => rfl, fun _ => rfl, fun _ => rfl, fun _ => rfl, fun _ => rfl, fun _ => rfl, fun _ => rfl, fun _ => rfl, fun _ => rfl, fun _ => rfl, fun _ => rfl, fun _ => rfl, fun _ => rfl, fun _ => rfl, fun _ => h1.2.2.2.2, fun _ => rfl, trivial⟩) rfl za (.inl rfl) ?_
 refine (gj) ?_
 refine xB (v := sv []) rfl rfl ?_
 refine Qn<|(gs)<|(Qf 0)<|(jd)<|(Qf 7)<|(QV 7 0) ?_
 refine yf hvt (Uu 27) (Uz 25) rfl rfl (by omega) rfl ?_
 refine (QS) ?_
 refine zS hvt ze (Uu 25) rfl rfl (xz (by omega)) rfl ?_
 refine (QC hq)<|(Qm)<|Qn<|Qb ?_
 refine QzK [(2, _), (3, _), (4, _), (6, _), (11, _), (45, _), (46, _)] [(1, _), (2, _), (3, _)] (fun kk E m => ∃ (i : Nat) (y1 : SY) (r1v : RS) (u1 : Nat) (out : List Nat), kk = q.length - i ∧ E = [(12, (sv out)), (47, ii i)] ∧ m = [(0, (some ⟨r1, shC b l vp v0 v1 vt fi ((tq : Nat) : Int) dd y1 ow r1v vk ((u1 : Nat) : Int), 37⟩))] ∧ (i ≤ q.length) ∧ (okS (y1, r1v, u1)) ∧ (wi fi ow ps sc q (y, r, us) [] = wi fi ow ps sc (q.drop i) (y1, r1v, u1) out) ∧ (out.length ≤ 48 * i) ∧ (∀ x ∈ out, x < 256)) ⟨0, y, r, us, [], rfl, rfl, rfl, by omega, ⟨hy, hr⟩, rfl, (by simp), (fun x hx => by cases hx)⟩ ⟨rfl, rfl, rfl, rfl, rfl, rfl, rfl, rfl, rfl, trivial⟩ ⟨rfl, rfl, rfl, rfl, trivial⟩ ?_
 rintro kk E m ⟨i, y1, r1v, u1, out, rfl, rfl, rfl, hf0_0, hf0_1, hf0_2, hf0_3, hf0_4⟩
 simp only [zq, zx]
 refine (gq) ?_
 refine (Qcd) (fun hc2=>?_) fun hc2=>?_
 ·have hc2 : i < q.length := by omega
  refine Qk<|Qs<|Qb<|(g4) ?_
  refine yf hq (Uu 25) (Uz 3) rfl rfl (by omega) rfl ?_
  refine (QS) ?_
  refine zS hq ze (Uu 3) rfl rfl (VY (by omega)) rfl ?_
  refine (g3) ?_
  have hx9 := z6o hq7 (show i < q.length by omega)
  obtain ⟨z, hz⟩ : ∃ z, vS fi ow ps sc (q.getD i 0) (y1, r1v, u1) = z := ⟨_, rfl⟩
  have hzl : z.2.2.length ≤ 48 := by rw [← hz]; exact XI
  have hzb : ∀ x ∈ z.2.2, x < 256 := by rw [← hz]; exact z2Y
  have hst : z.1 ≠ 0 → w = (z.1, z.2.1, []) := fun he => by rw [← hw]; exact YX (hf0_2.trans (WV (by omega) hz he)) he
  have hww : (z.1 = 0 ∧ y1.1 = true) ∨ (z.1 = 0 ∧ y1.1 = false) ∨ z.1 ≠ 0 := by by_cases he : z.1 = 0; cases hh : y1.1; exact .inr (.inl ⟨he, rfl⟩); exact .inl ⟨he, rfl⟩; exact .inr (.inr he)
  refine (gc)<|(ji)<|Qs ?_
  rcases (by omega : q.getD i 0 = 1 ∨ q.getD i 0 = 2 ∨ 3 ≤ q.getD i 0) with ht1 | ht1 | ht1
  ·skip
   refine Qp<|(Qc)<|(Qat)<|(g3)<|(Qct)<|Qs ?_
   have hz1 : z = (0, (xk (npk ps) y1 (zQ sc), (sc, true, r1v.2.2), u1), ky (zQ sc)) := (by rw [← hz, ht1]; exact z68); have he : z.1 = 0 := (by rw [hz1])
   ·skip
    refine Qp<|(Qd 1) ?_
    refine (Ca ((ZB (G := G) sc hs).more (in1 hP))) ?_
    refine (Av (Value.agg (arr .u8 32 (zQ sc))))<|(QH 4) fun r5=>(Qt 4)<|(gj)<|(Qd 1)<|(Qf 139)<|(QtC 0 15) ?_
    refine yM (c' := shC b l vp v0 v1 vt fi ((tq : Nat) : Int) dd y1 ow (sc, r1v.2.1, r1v.2.2) vk ((u1 : Nat) : Int)) rfl ?_
    refine (Qf 171)<|(QtV 0 16) ?_
    refine yM (c' := shC b l vp v0 v1 vt fi ((tq : Nat) : Int) dd y1 ow (sc, true, r1v.2.2) vk ((u1 : Nat) : Int)) rfl ?_
    refine Qn<|(g6)<|(Qd 4) ?_
    refine (Ca (xe (zQ sc))) ?_
    refine (Av (sv (ky (zQ sc)))) ?_
    refine zX rfl rfl rfl (by rw [WT]; omega) ?_
    refine z6 (show _ = sv (out ++ z.2.2) by rw [hz1]) ?_
    refine (g3)<|Qp<|(QD 0)<|(Qd 4) ?_
    refine (Ca (Xo hI b l vp v0 v1 vt fi ((tq : Nat) : Int) dd y1 (sc, true, r1v.2.2) ow vk ((u1 : Nat) : Int) (zQ sc) ps hk h1 hf0_1.1 (xr sc))) ?_
    refine z6 (show _ = .agg (shC b l vp v0 v1 vt fi ((tq : Nat) : Int) dd z.2.1.1 ow z.2.1.2.1 vk ((z.2.1.2.2 : Nat) : Int)) by rw [hz1]) ?_
    refine z5 (i := 0) (Uz 37) rfl rfl (z3 _ _) (z7 ⟨fun _ => rfl, fun _ => rfl, fun _ => h1.1, fun _ => h1.2.1, fun _ => h1.2.2.1, fun _ => h1.2.2.2.1, fun _ => rfl, fun _ => rfl, fun _ => rfl, fun _ => rfl, fun _ => rfl, fun _ => rfl, fun _ => rfl, fun _ => rfl, fun _ => rfl, fun _ => rfl, fun _ => rfl, fun _ => rfl, fun _ => rfl, fun _ => rfl, fun _ => rfl, fun _ => h1.2.2.2.2, fun _ => rfl, trivial⟩) rfl za (.inl rfl) ?_
    refine Qn<|(g6)<|(QN)<|(j8)<|(gl) ?_
    refine QzL ⟨i + 1, _, _, _, _, rfl, rfl, rfl, by omega, (by rw [← hz]; exact xA hf0_1 hs), (by have h9 := hf0_2.trans (xJ (by omega) (hz.trans (show z = (0, z.2.1, z.2.2) from Prod.ext he rfl))); first | exact h9 | (rw [hzn, List.append_nil] at h9; exact h9)), (by first | (rw [List.length_append]; omega) | omega), (by first | exact hf0_4 | exact fun x hx => by rcases List.mem_append.1 hx with h | h; exact hf0_4 x h; exact hzb x h)⟩ ⟨rfl, rfl, rfl, rfl, rfl, rfl, rfl, rfl, rfl, trivial⟩ ⟨rfl, rfl, rfl, rfl, trivial⟩ ?_
    omega
  ·skip
   refine Qp<|(Qc)<|(Qaf)<|(g3)<|(Qcf)<|(g4)<|(Qc)<|(Qat)<|(g3)<|(Qct)<|Qs ?_
   ((obtain ⟨e9, he9⟩ : ∃ e, yL y1 (ky (zQ ow)) = e := ⟨_, rfl⟩); have hzz : z = (e9.1, (e9.2.1, r1v, u1), e9.2.2) := (by rw [← hz, ht1]; exact z6i he9); have hzs : yL y1 (ky (zQ ow)) = (z.1, z.2.1.1, z.2.2) := (by subst hzz; exact he9); have hzr : z.2.1.2 = (r1v, u1) := (by subst hzz; rfl)); rcases hww with ⟨he, hh⟩ | ⟨he, hh⟩ | he
   ·skip
    refine Qp<|(Qf 107)<|(Qv 14 0) ?_
    refine (Ca ((ZB (G := G) ow ho).more (in1 hP))) ?_
    refine (Av (Value.agg (arr .u8 32 (zQ ow))))<|(QH 4) fun r5=>(Qt 4)<|Qn<|(gc)<|Qs<|(Qq ⟨[], 4, [], none, none⟩)<|(gy) ?_
    refine (Av (SVy y1))<|(Qsa 0 32) ?_
    refine zG 5 (fun v => .tuple #[SVy z.2.1.1, v, ii 0]) rfl rfl (Un 33) (zf ze (zZ 4 rfl ⟨[], trivial⟩)) ((Yj (G := G ++ [(⟨r5, arr .u8 32 (zQ ow), 30⟩ : Blk)]) (List.mem_append_left _ hI) y1 hf0_1.1 _ (ky (zQ ow)) ((y6 _ (zQ ow) _).mono (fun x h => List.mem_append_right _ h)) (xK (xr ow)) (z.1, z.2.1.1, z.2.2) hzs).2.1 he hh) (by simp only [maxLen]; omega) (by rw [List.length_map, Nat.mul_one]) rfl rfl fun v8_1 oz8_1 ho8_1 => ?_
    refine (jn)<|(j7) ?_
    refine yM (c' := shC b l vp v0 v1 vt fi ((tq : Nat) : Int) dd z.2.1.1 ow z.2.1.2.1 vk ((z.2.1.2.2 : Nat) : Int)) (by rw [hzr]; rfl) ?_
    refine (g8)<|(g6)<|(Qc)<|(Qar)<|(gv)<|Qp<|(gb) ?_
    refine zE (l := z.2.2) ho8_1.shows (zL 5 rfl ⟨[], trivial⟩) (Uu 22) (Uu 5) (Uu 9) rfl rfl rfl ?_
    refine zX rfl rfl rfl (by omega) ?_
    refine (jm)<|(j8)<|(gl) ?_
    refine QzL ⟨i + 1, _, _, _, _, rfl, rfl, rfl, by omega, (by rw [← hz]; exact xA hf0_1 hs), (by have h9 := hf0_2.trans (xJ (by omega) (hz.trans (show z = (0, z.2.1, z.2.2) from Prod.ext he rfl))); first | exact h9 | (rw [hzn, List.append_nil] at h9; exact h9)), (by first | (rw [List.length_append]; omega) | omega), (by first | exact hf0_4 | exact fun x hx => by rcases List.mem_append.1 hx with h | h; exact hf0_4 x h; exact hzb x h)⟩ ⟨rfl, rfl, rfl, rfl, rfl, rfl, rfl, rfl, rfl, trivial⟩ ⟨rfl, rfl, rfl, rfl, trivial⟩ ?_
    omega
   ·skip
    refine Qp<|(Qf 107)<|(Qv 14 0) ?_
    refine (Ca ((ZB (G := G) ow ho).more (in1 hP))) ?_
    refine (Av (Value.agg (arr .u8 32 (zQ ow))))<|(QH 4) fun r5=>(Qt 4)<|Qn<|(gc)<|(gr)<|(gy) ?_
    refine (Av (SVy y1))<|(Qsa 0 32) ?_
    refine zg rfl rfl (Un 33) (zf ze (zZ 4 rfl ⟨[], trivial⟩)) ((Yj (G := G ++ [(⟨r5, arr .u8 32 (zQ ow), 30⟩ : Blk)]) (List.mem_append_left _ hI) y1 hf0_1.1 _ (ky (zQ ow)) ((y6 _ (zQ ow) _).mono (fun x h => List.mem_append_right _ h)) (xK (xr ow)) (z.1, z.2.1.1, z.2.2) hzs).2.2 he hh).2 rfl rfl ?_
    refine (jn)<|(j7) ?_
    refine yM (c' := shC b l vp v0 v1 vt fi ((tq : Nat) : Int) dd z.2.1.1 ow z.2.1.2.1 vk ((z.2.1.2.2 : Nat) : Int)) (by rw [hzr]; rfl) ?_
    refine (g8)<|(g6)<|(Qc)<|(Qar)<|(gv)<|Qp<|(gb) ?_
    refine zE (l := z.2.2) (show Shows [(⟨r5, arr .u8 32 (zQ ow), 30⟩ : Blk)] 1 _ z.2.2.length (z.2.2.map by8) by rw [((Yj (G := G ++ [(⟨r5, arr .u8 32 (zQ ow), 30⟩ : Blk)]) (List.mem_append_left _ hI) y1 hf0_1.1 _ (ky (zQ ow)) ((y6 _ (zQ ow) _).mono (fun x h => List.mem_append_right _ h)) (xK (xr ow)) (z.1, z.2.1.1, z.2.2) hzs).2.2 he hh).1]; exact y6 _ (zQ ow) _) (zZ 4 rfl ⟨[], trivial⟩) (Uu 22) (Uu 5) (Uu 9) rfl rfl rfl ?_
    refine zX rfl rfl rfl (by omega) ?_
    refine (jm)<|(j8)<|(gl) ?_
    refine QzL ⟨i + 1, _, _, _, _, rfl, rfl, rfl, by omega, (by rw [← hz]; exact xA hf0_1 hs), (by have h9 := hf0_2.trans (xJ (by omega) (hz.trans (show z = (0, z.2.1, z.2.2) from Prod.ext he rfl))); first | exact h9 | (rw [hzn, List.append_nil] at h9; exact h9)), (by first | (rw [List.length_append]; omega) | omega), (by first | exact hf0_4 | exact fun x hx => by rcases List.mem_append.1 hx with h | h; exact hf0_4 x h; exact hzb x h)⟩ ⟨rfl, rfl, rfl, rfl, rfl, rfl, rfl, rfl, rfl, trivial⟩ ⟨rfl, rfl, rfl, rfl, trivial⟩ ?_
    omega
   ·skip
    refine Qp<|(Qf 107)<|(Qv 14 0) ?_
    refine (Ca ((ZB (G := G) ow ho).more (in1 hP))) ?_
    refine (Av (Value.agg (arr .u8 32 (zQ ow))))<|(QH 4) fun r5=>(Qt 4)<|Qn<|(gc)<|(gr)<|(gy) ?_
    refine (Av (SVy y1))<|(Qsa 0 32) ?_
    refine zg rfl rfl (Un 33) (zf ze (zZ 4 rfl ⟨[], trivial⟩)) ((Yj (G := G ++ [(⟨r5, arr .u8 32 (zQ ow), 30⟩ : Blk)]) (List.mem_append_left _ hI) y1 hf0_1.1 _ (ky (zQ ow)) ((y6 _ (zQ ow) _).mono (fun x h => List.mem_append_right _ h)) (xK (xr ow)) (z.1, z.2.1.1, z.2.2) hzs).1 he) rfl rfl ?_
    refine (jn)<|(j7)<|(g8)<|(g6)<|(Qc)<|(j8)<|(g6)<|(QN)<|(Qat)<|(gv) ?_
    obtain rfl := hst he
    refine (g4)<|(QD 3)<|(Qm) ?_
    refine (Ca (z35 b l vp v0 v1 vt fi ((tq : Nat) : Int) dd y r ow vk ((us : Nat) : Int) z.1 h1))<|(ga)<|(Qx) ?_
    refine z5 (i := 2) (Uz 37) rfl rfl (z3 _ _) (z7 ⟨fun _ => rfl, fun _ => rfl, fun _ => h1.1, fun _ => h1.2.1, fun _ => h1.2.2.1, fun _ => h1.2.2.2.1, fun _ => rfl, fun _ => rfl, fun _ => rfl, fun _ => rfl, fun _ => rfl, fun _ => rfl, fun _ => rfl, fun _ => rfl, fun _ => rfl, fun _ => rfl, fun _ => rfl, fun _ => rfl, fun _ => rfl, fun _ => rfl, fun _ => rfl, fun _ => h1.2.2.2.2, fun _ => rfl, trivial⟩) rfl za (.inl rfl) ?_
    refine (h8) ?_
    exact ⟨_, _, _, rfl, yb 2, yt, yt⟩
  ·skip
   refine Qp<|(Qc)<|(Qaf)<|(g3)<|(Qcf)<|(g4)<|(Qc)<|(Qaf)<|(g3)<|(Qcf) ?_
   ((obtain ⟨e9, he9⟩ : ∃ e, xL fi ow ps (q.getD i 0) (y1, r1v, u1) = e := ⟨_, rfl⟩); have hzz : z = (e9.1, e9.2, []) := (by rw [← hz]; exact z6I ht1 he9); have hzx : xL fi ow ps (q.getD i 0) (y1, r1v, u1) = (z.1, z.2.1) := (by subst hzz; exact he9); have hzn : z.2.2 = [] := (by rw [hzz])); by_cases he : z.1 = 0
   ·skip
    refine Qp<|(QD 0)<|(Qm) ?_
    refine (Ca (z0O hI hP b l vp v0 v1 vt fi ((tq : Nat) : Int) dd y1 r1v ow vk u1 ps hk hp h1 hf0_1.1 hf0_1.2 ho (q.getD i 0) (z.1, z.2.1) hzx))<|(gi) ?_
    refine z5 (i := 0) (Uz 37) rfl rfl (z3 _ _) (z7 ⟨fun _ => rfl, fun _ => rfl, fun _ => h1.1, fun _ => h1.2.1, fun _ => h1.2.2.1, fun _ => h1.2.2.2.1, fun _ => rfl, fun _ => rfl, fun _ => rfl, fun _ => rfl, fun _ => rfl, fun _ => rfl, fun _ => rfl, fun _ => rfl, fun _ => rfl, fun _ => rfl, fun _ => rfl, fun _ => rfl, fun _ => rfl, fun _ => rfl, fun _ => rfl, fun _ => h1.2.2.2.2, fun _ => rfl, trivial⟩) rfl za (.inl rfl) ?_
    refine (jm)<|(j8)<|(gl) ?_
    refine QzL ⟨i + 1, _, _, _, _, rfl, rfl, rfl, by omega, (by rw [← hz]; exact xA hf0_1 hs), (by have h9 := hf0_2.trans (xJ (by omega) (hz.trans (show z = (0, z.2.1, z.2.2) from Prod.ext he rfl))); first | exact h9 | (rw [hzn, List.append_nil] at h9; exact h9)), (by first | (rw [List.length_append]; omega) | omega), (by first | exact hf0_4 | exact fun x hx => by rcases List.mem_append.1 hx with h | h; exact hf0_4 x h; exact hzb x h)⟩ ⟨rfl, rfl, rfl, rfl, rfl, rfl, rfl, rfl, rfl, trivial⟩ ⟨rfl, rfl, rfl, rfl, trivial⟩ ?_
    omega
   ·skip
    refine Qp<|(QD 0)<|(Qm) ?_
    refine (Ca (z0O hI hP b l vp v0 v1 vt fi ((tq : Nat) : Int) dd y1 r1v ow vk u1 ps hk hp h1 hf0_1.1 hf0_1.2 ho (q.getD i 0) (z.1, z.2.1) hzx))<|(gi) ?_
    refine z5 (i := 0) (Uz 37) rfl rfl (z3 _ _) (z7 ⟨fun _ => rfl, fun _ => rfl, fun _ => h1.1, fun _ => h1.2.1, fun _ => h1.2.2.1, fun _ => h1.2.2.2.1, fun _ => rfl, fun _ => rfl, fun _ => rfl, fun _ => rfl, fun _ => rfl, fun _ => rfl, fun _ => rfl, fun _ => rfl, fun _ => rfl, fun _ => rfl, fun _ => rfl, fun _ => rfl, fun _ => rfl, fun _ => rfl, fun _ => rfl, fun _ => h1.2.2.2.2, fun _ => rfl, trivial⟩) rfl za (.inl rfl) ?_
    refine (jm)<|(Qat)<|(gv) ?_
    obtain rfl := hst he
    refine (g4)<|(QD 3)<|(Qm) ?_
    refine (Ca (z35 b l vp v0 v1 vt fi ((tq : Nat) : Int) dd y r ow vk ((us : Nat) : Int) z.1 h1))<|(ga)<|(Qx) ?_
    refine z5 (i := 2) (Uz 37) rfl rfl (z3 _ _) (z7 ⟨fun _ => rfl, fun _ => rfl, fun _ => h1.1, fun _ => h1.2.1, fun _ => h1.2.2.1, fun _ => h1.2.2.2.1, fun _ => rfl, fun _ => rfl, fun _ => rfl, fun _ => rfl, fun _ => rfl, fun _ => rfl, fun _ => rfl, fun _ => rfl, fun _ => rfl, fun _ => rfl, fun _ => rfl, fun _ => rfl, fun _ => rfl, fun _ => rfl, fun _ => rfl, fun _ => h1.2.2.2.2, fun _ => rfl, trivial⟩) rfl za (.inl rfl) ?_
    refine (h8) ?_
    exact ⟨_, _, _, rfl, yb 2, yt, yt⟩
 ·have hz0 : i = q.length := by omega
  have hrun := hf0_2.trans (VX hz0)
  obtain ⟨e2, he2⟩ : ∃ e, yL y1 tx = e := ⟨_, rfl⟩
  have hfin : w = (e2.1, (e2.2.1, r1v, u1), out ++ e2.2.2) := by rw [← hw]; exact V1 hrun he2
  have hel : e2.2.2.length ≤ tx.length + 16 := by rw [← he2]; exact wE y1 tx
  have heb : ∀ x ∈ e2.2.2, x < 256 := by rw [← he2]; exact Wd htb
  subst hfin
  refine (jo)<|(gy) ?_
  refine (Av (SVy y1))<|(Qm) ?_
  refine zg rfl rfl (Un 33) ze ((Yj hI y1 hf0_1.1 vx tx hvt2 htb e2 he2).1 h0) rfl rfl ?_
  refine (jn)<|(QH 4) fun r5=>(QW 4)<|(ja)<|(QN)<|(Qat)<|(gv)<|(g4)<|(QD 3)<|(Qm) ?_
  refine (Ca (z35 b l vp v0 v1 vt fi ((tq : Nat) : Int) dd y r ow vk ((us : Nat) : Int) e2.1 h1))<|(ga)<|(Qx) ?_
  refine z5 (i := 2) (Uz 37) rfl rfl (z3 _ _) (z7 ⟨fun _ => rfl, fun _ => rfl, fun _ => h1.1, fun _ => h1.2.1, fun _ => h1.2.2.1, fun _ => h1.2.2.2.1, fun _ => rfl, fun _ => rfl, fun _ => rfl, fun _ => rfl, fun _ => rfl, fun _ => rfl, fun _ => rfl, fun _ => rfl, fun _ => rfl, fun _ => rfl, fun _ => rfl, fun _ => rfl, fun _ => rfl, fun _ => rfl, fun _ => rfl, fun _ => h1.2.2.2.2, fun _ => rfl, trivial⟩) rfl za (.inl rfl) ?_
  refine (h8) ?_
  exact ⟨_, _, _, rfl, yb 2, yt, yt⟩
theorem z4b (b : LN) (l : Bool) (vp v0 v1 vt : Value) (fi : Bool) (tn : Int) (dd : Bool) (y : SY) (r : RS) (ow : NN) (vk : Value) (us : Int) (p0 p1 : List Int) (tvs : List Value) (ts : List (List Int)) (hvt : Shows G 1 vt tvs.length tvs) (hLI : zn G (v0 :: v1 :: tvs) (p0 :: p1 :: ts)) (sc : NN) (vx : Value) (h1 : xU vp v0 v1 vt vk) (hbad : ((((dd || decide (tn < 0)) || decide ((tvs.length : Int) ≤ tn)) || decide (us < 0)) || decide (((zM l p0 p1 ts : Nat) : Int) ≠ 0)) = true) : Fp G 10 #[.agg (shC b l vp v0 v1 vt fi tn dd y ow r vk us), .agg (arr .u8 32 sc), vx] (.tuple #[.agg (shC b l vp v0 v1 vt fi tn dd y ow r vk us), yg, ii 9]) := by
 refine Qf3 Tryz.func10 ?_
 refine (g4)<|(Qh 0) fun r1=>(Qh 1) fun r2=>(QH 2) fun r3=>(g8)<|Qs<|(gd) ?_
 refine (Ca (za3 b l vp v0 v1 vt fi tn dd y r ow vk us p0 p1 tvs ts hvt hLI hbad))<|(gi)<|(g8)<|(g6)<|(Q0)<|(Qm)<|(g5)<|(QT)<|(gv)<|(gd) ?_
 refine z5 (i := 2) (Uz 37) rfl rfl (z3 _ _) (z7 ⟨fun _ => rfl, fun _ => rfl, fun _ => h1.1, fun _ => h1.2.1, fun _ => h1.2.2.1, fun _ => h1.2.2.2.1, fun _ => rfl, fun _ => rfl, fun _ => rfl, fun _ => rfl, fun _ => rfl, fun _ => rfl, fun _ => rfl, fun _ => rfl, fun _ => rfl, fun _ => rfl, fun _ => rfl, fun _ => rfl, fun _ => rfl, fun _ => rfl, fun _ => rfl, fun _ => h1.2.2.2.2, fun _ => rfl, trivial⟩) rfl za (.inl rfl) ?_
 refine (h8) ?_
 exact ⟨_, _, _, rfl, yb 2, yt, yt⟩
theorem z0F (b : LN) (l : Bool) (vp v0 v1 vt : Value) (fi : Bool) (tq : Nat) (dd : Bool) (y : SY) (r : RS) (ow : NN) (vk : Value) (us : Int) (p0 p1 : List Int) (tvs : List Value) (ts : List (List Int)) (hvt : Shows G 1 vt tvs.length tvs) (hLI : zn G (v0 :: v1 :: tvs) (p0 :: p1 :: ts)) (sc : NN) (vx : Value) (h1 : xU vp v0 v1 vt vk) (hbad : ((((dd || decide (((tq : Nat) : Int) < 0)) || decide ((tvs.length : Int) ≤ ((tq : Nat) : Int))) || decide (us < 0)) || decide (((zM l p0 p1 ts : Nat) : Int) ≠ 0)) = false) (hmine : ((decide (((tq % 2 : Nat) : Int) = 0) != l) == fi) = false) : Fp G 10 #[.agg (shC b l vp v0 v1 vt fi ((tq : Nat) : Int) dd y ow r vk us), .agg (arr .u8 32 sc), vx] (.tuple #[.agg (shC b l vp v0 v1 vt fi ((tq : Nat) : Int) dd y ow r vk us), yg, ii 9]) := by
 refine Qf3 Tryz.func10 ?_
 refine (g4)<|(Qh 0) fun r1=>(Qh 1) fun r2=>(QH 2) fun r3=>(g8)<|Qs<|(gd) ?_
 refine (Ca (Yu b l vp v0 v1 vt fi tq dd y r ow vk us p0 p1 tvs ts hvt hLI hbad)) ?_
 refine z6 (show _ = Value.tuple #[.bool false, .bool true] by rw [hmine]) ?_
 refine (gi)<|(g8)<|(g6)<|(Q0)<|(gn)<|(Q0)<|(QF)<|(gv)<|(gd) ?_
 refine z5 (i := 2) (Uz 37) rfl rfl (z3 _ _) (z7 ⟨fun _ => rfl, fun _ => rfl, fun _ => h1.1, fun _ => h1.2.1, fun _ => h1.2.2.1, fun _ => h1.2.2.2.1, fun _ => rfl, fun _ => rfl, fun _ => rfl, fun _ => rfl, fun _ => rfl, fun _ => rfl, fun _ => rfl, fun _ => rfl, fun _ => rfl, fun _ => rfl, fun _ => rfl, fun _ => rfl, fun _ => rfl, fun _ => rfl, fun _ => rfl, fun _ => h1.2.2.2.2, fun _ => rfl, trivial⟩) rfl za (.inl rfl) ?_
 refine (h8) ?_
 exact ⟨_, _, _, rfl, yb 2, yt, yt⟩
theorem z1r (b : LN) (l : Bool) (vp v0 v1 vt : Value) (fi : Bool) (tq : Nat) (dd : Bool) (y : SY) (r : RS) (ow : NN) (vk : Value) (us : Int) (p0 p1 : List Int) (tvs : List Value) (ts : List (List Int)) (hvt : Shows G 1 vt tvs.length tvs) (hLI : zn G (v0 :: v1 :: tvs) (p0 :: p1 :: ts)) (sc : NN) (vx : Value) (tx : LN) (hvt2 : Sh G vx tx) (htb : By tx) (h1 : xU vp v0 v1 vt vk) (hbad : ((((dd || decide (((tq : Nat) : Int) < 0)) || decide ((tvs.length : Int) ≤ ((tq : Nat) : Int))) || decide (us < 0)) || decide (((zM l p0 p1 ts : Nat) : Int) ≠ 0)) = false) (hmine : ((decide (((tq % 2 : Nat) : Int) = 0) != l) == fi) = true) (hlt : 400 < tx.length) : Fp G 10 #[.agg (shC b l vp v0 v1 vt fi ((tq : Nat) : Int) dd y ow r vk us), .agg (arr .u8 32 sc), vx] (.tuple #[.agg (shC b l vp v0 v1 vt fi ((tq : Nat) : Int) dd y ow r vk us), yg, ii 1]) := by
 have _u1 := htb
 refine Qf3 Tryz.func10 ?_
 refine (g4)<|(Qh 0) fun r1=>(Qh 1) fun r2=>(QH 2) fun r3=>(g8)<|Qs<|(gd) ?_
 refine (Ca (Yu b l vp v0 v1 vt fi tq dd y r ow vk us p0 p1 tvs ts hvt hLI hbad)) ?_
 refine z6 (show _ = Value.tuple #[.bool true, .bool true] by rw [hmine]) ?_
 refine (gi)<|(g8)<|(g6)<|(Q0)<|(gn)<|(Q0)<|(QF)<|(go)<|(ge)<|(QC hvt2)<|(QG)<|(Qat)<|(gv)<|(gd) ?_
 refine z5 (i := 2) (Uz 37) rfl rfl (z3 _ _) (z7 ⟨fun _ => rfl, fun _ => rfl, fun _ => h1.1, fun _ => h1.2.1, fun _ => h1.2.2.1, fun _ => h1.2.2.2.1, fun _ => rfl, fun _ => rfl, fun _ => rfl, fun _ => rfl, fun _ => rfl, fun _ => rfl, fun _ => rfl, fun _ => rfl, fun _ => rfl, fun _ => rfl, fun _ => rfl, fun _ => rfl, fun _ => rfl, fun _ => rfl, fun _ => rfl, fun _ => h1.2.2.2.2, fun _ => rfl, trivial⟩) rfl za (.inl rfl) ?_
 refine (h8) ?_
 exact ⟨_, _, _, rfl, yb 2, yt, yt⟩
theorem vX (va vb : Value) (a b : List Int) (ha : Shows G 1 va a.length (a.map iv)) (hb : Shows G 1 vb b.length (b.map iv)) (hz : a.length ≤ 9223372036854775807) : Fp G 48 #[va, vb] (.bool (decide (a = b))) := by
 refine Qf1 Tryz.func48 ?_
 refine (gc)<|(ge)<|(QC ha)<|(Qm)<|(QC hb)<|(QN)<|Qn ?_
 refine zi rfl ?_ ?_
 ·intro hc0
  have hne := of_decide_eq_true hc0
  refine (gz) ?_
  first | rw [show decide (a = b) = false from decide_eq_false (fun h => hne (by rw [h]))] | rw [show decide (a = b) = false from decide_eq_false (fun h => hq (by rw [h]))] | rw [show decide (a = b) = true from decide_eq_true (VP hlen (fun j hj => hf0_1 j (by omega)))]
  exact ⟨_, rfl, yt⟩
 ·intro hc0
  have hlen : a.length = b.length := by have := of_decide_eq_false hc0; omega
  refine Qk<|(ge)<|(QC ha)<|(Qm)<|Qn<|Qb ?_
  refine QzK [(0, _), (1, _), (12, _)] [] (fun kk E m => ∃ (i : Nat), kk = a.length - i ∧ E = [(13, ii i)] ∧ m = [] ∧ (i ≤ a.length) ∧ (∀ j, j < i → a.getD j 0 = b.getD j 0) ∧ (a.length = b.length)) ⟨0, rfl, rfl, rfl, by omega, fun j hj => absurd hj (Nat.not_lt_zero j), hlen⟩ ⟨rfl, rfl, rfl, rfl, trivial⟩ trivial ?_
  rintro kk E m ⟨i, rfl, rfl, rfl, hf0_0, hf0_1, hf0_2⟩
  simp only [zq, zx]
  refine (gq) ?_
  refine (Qcd) (fun hc1=>?_) fun hc1=>?_
  ·have hc1 : i < a.length := by omega
   refine (jr)<|(g3)<|(gr)<|(gb) ?_
   refine yf ha (Uu 25) (Uz 3) rfl rfl (by omega) rfl ?_
   refine (QS) ?_
   refine zS ha ze (Uu 3) rfl rfl (z7Q (by omega)) rfl ?_
   refine (gb) ?_
   refine yf hb (Uu 25) (Uz 3) rfl rfl (by omega) rfl ?_
   refine (QS) ?_
   refine zS hb ze (Uu 3) rfl rfl (z7Q (by omega)) rfl ?_
   refine (QN)<|Qn ?_
   refine zi rfl ?_ ?_
   ·intro hc2
    have hq := of_decide_eq_true hc2
    refine (gz) ?_
    first | rw [show decide (a = b) = false from decide_eq_false (fun h => hne (by rw [h]))] | rw [show decide (a = b) = false from decide_eq_false (fun h => hq (by rw [h]))] | rw [show decide (a = b) = true from decide_eq_true (VP hlen (fun j hj => hf0_1 j (by omega)))]
    exact ⟨_, rfl, yt⟩
   ·intro hc2
    have hq : a.getD i 0 = b.getD i 0 := by have := of_decide_eq_false hc2; omega
    refine Qk<|(gl) ?_
    refine QzL ⟨i + 1, rfl, rfl, rfl, by omega, fun j hj => by rcases (by omega : j < i ∨ j = i) with h | rfl; exact hf0_1 j h; exact hq, hlen⟩ ⟨rfl, rfl, rfl, rfl, trivial⟩ trivial ?_
    omega
  ·have hz0 : i = a.length := by omega
   refine Qe<|(gz) ?_
   first | rw [show decide (a = b) = false from decide_eq_false (fun h => hne (by rw [h]))] | rw [show decide (a = b) = false from decide_eq_false (fun h => hq (by rw [h]))] | rw [show decide (a = b) = true from decide_eq_true (VP hlen (fun j hj => hf0_1 j (by omega)))]
   exact ⟨_, rfl, yt⟩
theorem zbX (ba : LN) (la : Bool) (vpa v0a v1a vta : Value) (tva : List Value) (pa q0a q1a : List Int) (ta : List (List Int)) (hbaz : By ba) (hva : Shows G 1 vta tva.length tva) (hLa : zn G (vpa :: v0a :: v1a :: tva) (pa :: q0a :: q1a :: ta)) (bb : LN) (lb : Bool) (vpb v0b v1b vtb : Value) (tvb : List Value) (pb q0b q1b : List Int) (tb : List (List Int)) (hbbz : By bb) (hvb : Shows G 1 vtb tvb.length tvb) (hLb : zn G (vpb :: v0b :: v1b :: tvb) (pb :: q0b :: q1b :: tb)) (hza : ta.length ≤ 9223372036854775807 ∧ ∀ l ∈ pa :: q0a :: q1a :: ta, l.length ≤ 9223372036854775807) : Fp G 25 #[.agg (zgO ba la vpa v0a v1a vta), .agg (zgO bb lb vpb v0b v1b vtb)] (.bool (z7T ba bb la lb pa pb q0a q0b q1a q1b ta tb)) := by
 obtain ⟨ha0, ha1, ha2, ha3, ha4⟩ := z4Z hLa
 obtain ⟨hB0, hB1, hB2, hB3, hB4⟩ := z4Z hLb
 rw [ha3] at hva
 rw [hB3] at hvb
 have hz1 := hza.1
 refine Qf1 Tryz.func25 ?_
 refine (g4)<|(Qh 0) fun r1=>(Qh 1) fun r2=>(j3) ?_
 refine yd [(0, _), (1, _), (2, _), (3, _), (4, _)] [(5, .bool (sp0 ba bb la lb ta.length tb.length pa pb q0a q0b q1a q1b))] [(0, some _), (1, some _)] ⟨rfl, rfl, rfl, rfl, rfl, trivial⟩ ⟨rfl, rfl, trivial⟩ ?_ ?_
 ·skip
  refine (j0)<|(Qf 0)<|(QV 0 1) ?_
  refine z9a rfl rfl rfl hbaz hbbz ?_
  refine (Qm) ?_
  refine zo (fun hb0 => ?_) (fun hb0 => ?_)
  ·skip
   refine (Qy)<|(Qf 1)<|(Qy)<|(QV 1 0)<|(Qy)<|(Qf 1)<|(Qy)<|(QV 1 1)<|(Qy) ?_
   refine XU (Uu 4) rfl rfl rfl ?_
   refine (QT)<|(Qm) ?_
   refine zo (fun hb1 => ?_) (fun hb1 => ?_)
   ·skip
    refine (Qy)<|(Qf 5)<|(Qy)<|(QV 5 0)<|(Qy)<|(QC hva)<|(Qy)<|(Qf 5)<|(Qy)<|(QV 5 1)<|(Qy)<|(QC hvb)<|(Qy)<|(Qc)<|(QT)<|(Qm) ?_
    refine zo (fun hb2 => ?_) (fun hb2 => ?_)
    ·skip
     refine (Qy)<|(Qf 2)<|(Qy)<|(QV 2 0)<|(Qy)<|(Qf 2)<|(Qy)<|(QV 2 1)<|(Qy) ?_
     refine (Ca (vX vpa vpb pa pb ha0 hB0 (hza.2 pa (by simp))))<|(QT)<|(Qm) ?_
     refine zo (fun hb3 => ?_) (fun hb3 => ?_)
     ·skip
      refine (Qy)<|(Qf 3)<|(Qy)<|(QA 3 0)<|(Qy)<|(QV 3 0)<|(Qy)<|(Qf 3)<|(Qy)<|(QA 3 0)<|(Qy)<|(QV 3 1)<|(Qy) ?_
      refine (Ca (vX v0a v0b q0a q0b ha1 hB1 (hza.2 q0a (by simp))))<|(QT)<|(Qm) ?_
      refine zo (fun hb4 => ?_) (fun hb4 => ?_)
      ·skip
       refine (Qy)<|(Qf 3)<|(Qy)<|(QA 4 1)<|(j6)<|(Qy)<|(Qf 3)<|(Qy)<|(QA 4 1)<|(Qy)<|(QV 4 1)<|(Qy) ?_
       refine (Ca (vX v1a v1b q1a q1b ha2 hB2 (hza.2 q1a (by simp))))<|(QT)<|(g3) ?_
       exact ⟨⟨rfl, rfl, rfl, rfl, rfl, trivial⟩, ⟨z4 (by rw [sp0, hb0, hb1, hb2, hb3, hb4] <;> rfl), trivial⟩, ⟨rfl, rfl, trivial⟩⟩
      ·skip
       refine (gg)<|(gw)<|(QF)<|(g3) ?_
       exact ⟨⟨rfl, rfl, rfl, rfl, rfl, trivial⟩, ⟨z4 (by rw [sp0, hb0, hb1, hb2, hb3, hb4] <;> rfl), trivial⟩, ⟨rfl, rfl, trivial⟩⟩
     ·skip
      refine (gg)<|(gw)<|(QF)<|(j5)<|(gw)<|(QF)<|(g3) ?_
      exact ⟨⟨rfl, rfl, rfl, rfl, rfl, trivial⟩, ⟨z4 (by rw [sp0, hb0, hb1, hb2, hb3] <;> rfl), trivial⟩, ⟨rfl, rfl, trivial⟩⟩
    ·skip
     refine (gg)<|(Qo)<|(QF)<|(j5)<|(gw)<|(QF)<|(j5)<|(gw)<|(QF)<|(g3) ?_
     exact ⟨⟨rfl, rfl, rfl, rfl, rfl, trivial⟩, ⟨z4 (by rw [sp0, hb0, hb1, hb2] <;> rfl), trivial⟩, ⟨rfl, rfl, trivial⟩⟩
   ·skip
    refine (gg)<|(gw)<|(QF)<|(j5)<|(Qo)<|(QF)<|(j5)<|(gw)<|(QF)<|(j5)<|(gw)<|(QF)<|(g3) ?_
    exact ⟨⟨rfl, rfl, rfl, rfl, rfl, trivial⟩, ⟨z4 (by rw [sp0, hb0, hb1] <;> rfl), trivial⟩, ⟨rfl, rfl, trivial⟩⟩
  ·skip
   refine (gg)<|(Qo)<|(QF)<|(j5)<|(gw)<|(QF)<|(j5)<|(Qo)<|(QF)<|(j5)<|(gw)<|(QF)<|(j5)<|(gw)<|(QF)<|(g3) ?_
   exact ⟨⟨rfl, rfl, rfl, rfl, rfl, trivial⟩, ⟨z4 (by rw [sp0, hb0] <;> rfl), trivial⟩, ⟨rfl, rfl, trivial⟩⟩
 ·simp only [zq]
  refine Qs<|(gc)<|Qb ?_
  refine QzK [(2, _), (3, _), (4, _)] [(0, _), (1, _)] (fun kk E m => ∃ (k : Nat) (ok : Bool), kk = ta.length - k ∧ E = [(5, .bool ok), (6, ii k)] ∧ m = [] ∧ (k ≤ ta.length) ∧ (ok = spk (sp0 ba bb la lb ta.length tb.length pa pb q0a q0b q1a q1b) ta tb k)) ⟨0, (sp0 ba bb la lb ta.length tb.length pa pb q0a q0b q1a q1b), rfl, rfl, rfl, by omega, (zc6 _ _ _)⟩ ⟨rfl, rfl, rfl, rfl, rfl, trivial⟩ ⟨rfl, rfl, trivial⟩ ?_
  rintro kk E m ⟨k, ok, rfl, rfl, rfl, hf0_0, hf0_1⟩
  simp only [zq, zx]
  refine (gs) ?_
  refine yd [(2, _), (3, _), (4, _), (5, _), (6, _)] [(60, .bool (ok && decide ((k : Int) < (ta.length : Int))))] [(0, some _), (1, some _)] ⟨rfl, rfl, rfl, rfl, rfl, trivial⟩ ⟨rfl, rfl, trivial⟩ ?_ ?_
  ·skip
   refine (gb) ?_
   refine zo (fun hb5 => ?_) (fun hb5 => ?_)
   ·skip
    refine (Qy)<|(g7)<|(Qf 5)<|(Qy)<|(QV 5 0)<|(Qy)<|(QC hva)<|(Qy)<|(Ql)<|(QT)<|Qn ?_
    exact ⟨⟨rfl, rfl, rfl, rfl, rfl, trivial⟩, ⟨z4 (by rw [hb5] <;> rfl), trivial⟩, ⟨rfl, rfl, trivial⟩⟩
   ·skip
    refine (gg)<|(Qo)<|(QF)<|Qn ?_
    exact ⟨⟨rfl, rfl, rfl, rfl, rfl, trivial⟩, ⟨z4 (by rw [hb5] <;> rfl), trivial⟩, ⟨rfl, rfl, trivial⟩⟩
  ·simp only [zq]
   refine zi rfl ?_ ?_
   ·intro hc0
    obtain ⟨hok, hkl⟩ := z9Z hc0
    have hlen := z8C (zjK (hf0_1.symm.trans hok))
    refine Qk<|Qs<|Qb<|(Qg)<|(jd)<|(Qm) ?_
    refine yf hva (Uu 27) (Uz 25) rfl rfl (by omega) rfl ?_
    refine (QS) ?_
    refine zS hva ze (Uu 25) rfl rfl (zd5 (by omega)) rfl ?_
    refine (Qf 5)<|(QV 5 1)<|(Qm) ?_
    refine yf hvb (Uu 27) (Uz 25) rfl rfl (by omega) rfl ?_
    refine (QS) ?_
    refine zS hvb ze (Uu 25) rfl rfl (zd5 (by omega)) rfl ?_
    refine zd rfl (Un 48) (vX _ _ (ta.getD k []) (tb.getD k []) (ha4 k (by omega)) (hB4 k (by omega)) (zj3 (fun l h => hza.2 l (by simp [h])) k)) rfl rfl ?_
    refine (g3)<|(je)<|(Q2 1)<|(g3) ?_
    refine QzL ⟨k + 1, _, rfl, rfl, rfl, by omega, (zfm (hf0_1.symm.trans hok))⟩ ⟨rfl, rfl, rfl, rfl, rfl, trivial⟩ ⟨rfl, rfl, trivial⟩ ?_
    omega
   ·intro hc0
    have hfin := zaf hf0_1 hf0_0 hc0
    refine Qe<|(g6)<|(gt) ?_
    rw [← hfin]
    exact ⟨_, rfl, yt⟩
end Go.Proofs.YtlidhfijmcelpaaGreatDoor
