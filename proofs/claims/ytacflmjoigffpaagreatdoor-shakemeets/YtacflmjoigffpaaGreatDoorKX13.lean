import Derived.Test.YtacflmjoigffpaaGreatDoorKX12
set_option maxRecDepth 30000
set_option maxHeartbeats 8000000
attribute [local simp] Go.Proofs.YtacflmjoigffpaaGreatDoor.By Go.Proofs.YtacflmjoigffpaaGreatDoor.L8
namespace Go.Proofs.YtacflmjoigffpaaGreatDoor
open Go Go.RowKit
variable {G : Mem}
set_option maxRecDepth 20000 in
theorem z2P (b : LN) (l : Bool) (vp v0 v1 vt : Value) (fi : Bool) (tn : Int) (dd : Bool) (y : SY) (r : RS) (ow : NN) (vk : Value) (us : Int) (ps : List (NN)) (qs p0 p1 : List Int) (tvs : List Value) (ts : List (List Int)) (hk : Shows G 32 vk ps.length (psC ps)) (hvp : Shows G 1 vp qs.length (qs.map iv)) (hvt : Shows G 1 vt tvs.length tvs) (hLI : zF G (v0 :: v1 :: tvs) (p0 :: p1 :: ts)) (zk : ps.length * 32 ≤ 140737488355328) (zp : qs.length * 8 ≤ 140737488355328) (zt : tvs.length * 24 ≤ 140737488355328) (zl : ∀ q ∈ p0 :: p1 :: ts, q.length * 8 ≤ 140737488355328) : Fq G [] 36 #[.agg (shC b l vp v0 v1 vt fi tn dd y ow r vk us)] (fun v l1 nw => l1 = [] ∧ ZX b l qs p0 p1 ts ps fi tn dd y ow r us v nw) := by
 have hT := zL (zL hLI)
 have htl : tvs.length = ts.length := hT.1
 have hA0 : Shows G 1 v0 p0.length (p0.map iv) := hLI.2 0 (by simp)
 have hA1 : Shows G 1 v1 p1.length (p1.map iv) := hLI.2 1 (by simp)
 have z0 := zl p0 (by simp)
 have z1 := zl p1 (by simp)
 refine fxD (n := 55) Tryz.func36 rfl rfl (by simp) (xM [.agg (shC b l vp v0 v1 vt fi tn dd y ow r vk us)] 0) (yi _) ?_
 refine (g4)<|(Qh 0) fun r1=>(QH 1) fun r2=>Qn<|Qs<|QR ⟨[], 4, [], none, none⟩<|(Qf 238)<|(QV 21 0) ?_
 refine yf [(0, _), (1, _)] (by repeat (first | exact zq | exact zj _ | apply zg rfl)) ⟨rfl, rfl, trivial⟩ rfl rfl rfl (Un 24) zo ((WZ vk ps.length (psC ps) hk (z1g ps) zk).imp fun u l1 nw ⟨h1, v9, h2, h3⟩ => ⟨h1, h2 ▸ h3.shows⟩) (yQ 32 (psC ps) ps.length (xH Ze ps)) rfl rfl fun v1_1 nw1_1 hD1_1 => ?_
 simp only [zA]
 revert v1_1
 intro uK sK
 refine (Qf 238) ?_
 refine z0Z (i := 0) 21 (Uz 24) rfl rfl (z5 sK) rfl rfl (by decide) (.inl rfl) ?_
 refine Qn<|Qs<|QR ⟨[], 4, [], none, none⟩<|(Qf 0)<|(Qf 2)<|(QV 2 0) ?_
 refine yf [(0, _), (1, _)] (by repeat (first | exact zq | exact zj _ | apply zg rfl)) ⟨rfl, rfl, trivial⟩ rfl rfl rfl (Un 64) zo ((Xb vp qs.length (qs.map iv) hvp z1p zp).imp fun u l1 nw ⟨h1, v9, h2, h3⟩ => ⟨h1, h2 ▸ h3.shows⟩) (yQ 1 (qs.map iv) qs.length (by simp)) rfl rfl fun v1_2 nw1_2 hD1_2 => ?_
 simp only [zA]
 revert v1_2
 intro uP sP
 refine (Qf 0)<|(Qf 2) ?_
 refine z0Z (i := 0) 2 (Uz 25) rfl rfl (z5 sP) rfl rfl (by decide) (.inl rfl) ?_
 refine xQ (c' := shC b l uP v0 v1 vt fi tn dd y ow r uK us) rfl ?_
 refine Qn<|(gu)<|(Qf 0)<|(Qf 3) ?_
 refine z5j (i := 0) (Uu 26) rfl (Uz 26) rfl rfl (by decide) rfl ⟨[], trivial⟩ ?_
 refine zi (show _ = Value.agg (zO 2 (fun j => vq v0 v1 j)) from congrArg Value.agg (yq fun j hj => by have h9 : j = 0 ∨ j = 1 := (by omega); rcases h9 with rfl | rfl <;> rfl)) ?_
 refine (Qm)<|Qn<|Qb ?_
 refine VU [(1, _), (2, _), (19, _)] [(1, _)] (fun kk E m fz => ∃ (a : Nat) (a0 : Value) (a1 : Value), kk = 2 - a ∧ E = [(20, ii a)] ∧ m = [(0, some ⟨r1, shC b l uP a0 a1 vt fi tn dd y ow r uK us, 37⟩)] ∧ (a ≤ 2) ∧ (1 ≤ a → Shows fz 1 a0 p0.length (p0.map iv)) ∧ (2 ≤ a → Shows fz 1 a1 p1.length (p1.map iv)) ∧ (Shows fz 32 uK ps.length (psC ps)) ∧ (Shows fz 1 uP qs.length (qs.map iv))) (k := 2 - 0) (E0 := [(20, ii 0)]) (M0 := [(0, some ⟨r1, shC b l uP v0 v1 vt fi tn dd y ow r uK us, 37⟩)]) (fz := (([] ++ nw1_1) ++ nw1_2)) ⟨0, v0, v1, rfl, rfl, rfl, by omega, (fun h => absurd h (by omega)), (fun h => absurd h (by omega)), (sK.mono (fun x hx => List.mem_append_left _ (List.mem_append_right _ hx))), (sP.mono (fun x hx => List.mem_append_right _ hx))⟩ ⟨rfl, rfl, rfl, rfl, trivial⟩ ⟨rfl, rfl, trivial⟩ (by repeat (first | exact zq | exact zj _ | apply zg rfl)) ?_
 rintro kk E m fz ⟨a, a0, a1, rfl, rfl, rfl, hf0_0, hf0_1, hf0_2, hf0_3, hf0_4⟩
 simp only [zB, zA]
 refine (gt) ?_
 refine (Qcd) (fun hc0=>?_) fun hc0=>?_
 ·have hc0 : a < 2 := by omega
  refine Qk<|Qs<|Qb<|Qs ?_
  rcases (by omega : a = 0 ∨ a = 1) with ha | ha
  ·skip
   refine Qp<|(Qm) ?_
   refine z3U (Uu 26) (Uu 25) rfl (Uz 25) rfl rfl (by omega) rfl ?_
   refine zi (show vq v0 v1 a = v0 by rw [ha]; rfl) ?_
   refine (g7)<|QR ⟨[], 4, [], none, none⟩<|(ga) ?_
   refine yf [(0, _), (1, _)] (by repeat (first | exact zq | exact zj _ | apply zg rfl)) ⟨rfl, rfl, trivial⟩ rfl rfl rfl (Un 64) zo ((Xb v0 p0.length (p0.map iv) hA0 z1p z0).imp fun u l1 nw ⟨h1, v9, h2, h3⟩ => ⟨h1, h2 ▸ h3.shows⟩) (yQ 1 (p0.map iv) p0.length (by simp)) rfl rfl fun v3_3 nw3_3 hD3_3 => ?_
   simp only [zA]
   revert v3_3
   intro uA sA
   refine (Qf 0)<|(Qf 3)<|(QB 3) ?_
   refine z0Z (i := 0) 3 (Uz 25) rfl rfl (z5 sA) rfl rfl (by decide) (.inl rfl) ?_
   refine xQ (c' := shC b l uP uA a1 vt fi tn dd y ow r uK us) rfl ?_
   refine Qn<|(go) ?_
   refine X9 (E'' := [(20, ii (a + 1))]) (M'' := [(0, some ⟨r1, shC b l uP _ _ vt fi tn dd y ow r uK us, 37⟩)]) (fz' := (fz ++ nw3_3)) ⟨a + 1, _, _, rfl, rfl, rfl, by omega, (fun _ => Shows.mono sA (fun x hx => List.mem_append_right _ hx)), (fun h => absurd h (by omega)), (Shows.mono hf0_3 (fun x hx => List.mem_append_left _ hx)), (Shows.mono hf0_4 (fun x hx => List.mem_append_left _ hx))⟩ ⟨rfl, rfl, rfl, rfl, trivial⟩ ⟨rfl, rfl, trivial⟩ (by repeat (first | exact zq | exact zj _ | apply zg rfl)) (by omega)
  ·skip
   refine Qp<|(Qm) ?_
   refine z3U (Uu 26) (Uu 25) rfl (Uz 25) rfl rfl (by omega) rfl ?_
   refine zi (show vq v0 v1 a = v1 by rw [ha]; rfl) ?_
   refine (g7)<|QR ⟨[], 4, [], none, none⟩<|(ga) ?_
   refine yf [(0, _), (1, _)] (by repeat (first | exact zq | exact zj _ | apply zg rfl)) ⟨rfl, rfl, trivial⟩ rfl rfl rfl (Un 64) zo ((Xb v1 p1.length (p1.map iv) hA1 z1p z1).imp fun u l1 nw ⟨h1, v9, h2, h3⟩ => ⟨h1, h2 ▸ h3.shows⟩) (yQ 1 (p1.map iv) p1.length (by simp)) rfl rfl fun v3_3 nw3_3 hD3_3 => ?_
   simp only [zA]
   revert v3_3
   intro uA sA
   refine (Qf 0)<|(Qf 3)<|(QB 4) ?_
   refine z0Z (i := 0) 4 (Uz 25) rfl rfl (z5 sA) rfl rfl (by decide) (.inl rfl) ?_
   refine xQ (c' := shC b l uP a0 uA vt fi tn dd y ow r uK us) rfl ?_
   refine Qn<|(go) ?_
   refine X9 (E'' := [(20, ii (a + 1))]) (M'' := [(0, some ⟨r1, shC b l uP _ _ vt fi tn dd y ow r uK us, 37⟩)]) (fz' := (fz ++ nw3_3)) ⟨a + 1, _, _, rfl, rfl, rfl, by omega, (fun _ => Shows.mono (hf0_1 (by omega)) (fun x hx => List.mem_append_left _ hx)), (fun _ => Shows.mono sA (fun x hx => List.mem_append_right _ hx)), (Shows.mono hf0_3 (fun x hx => List.mem_append_left _ hx)), (Shows.mono hf0_4 (fun x hx => List.mem_append_left _ hx))⟩ ⟨rfl, rfl, rfl, rfl, trivial⟩ ⟨rfl, rfl, trivial⟩ (by repeat (first | exact zq | exact zj _ | apply zg rfl)) (by omega)
 ·have hz0 : a = 2 := by omega
  refine Qe<|Qs<|QR ⟨[], 4, [], none, none⟩<|(Qf 0)<|(Qf 5)<|(QV 5 0) ?_
  refine zK 2 (fun v => v) rfl rfl (Un 65) zo (z8r vt tvs.length tvs hvt (zkM hT) zt) (by simp only [maxLen]; omega) (by rw [Nat.mul_one]) rfl rfl fun v2_3 oz2_3 ho2_3 => ?_
  refine (Qf 0)<|(Qf 5) ?_
  refine z0Z (i := 0) 5 (Uz 27) rfl rfl (z5 ho2_3.shows) rfl rfl (by decide) (.inl rfl) ?_
  refine Qn<|(gu)<|(Qf 0)<|(Qf 5)<|(QV 5 0)<|(QC ho2_3.shows)<|(Qm)<|Qn<|Qb ?_
  refine VU [(1, _), (2, _), (19, _), (20, _), (39, _), (40, _)] [(0, _), (1, _)] (fun kk E m fy => ∃ (i : Nat) (xs : List Value) (oz : Option Blk), kk = tvs.length - i ∧ E = [(41, ii i)] ∧ m = [(2, oz)] ∧ (i ≤ tvs.length) ∧ (OwnS 25 1 v2_3 tvs.length xs (Option.toList oz)) ∧ (xs.length = tvs.length) ∧ (∀ j, j < i → Shows fy 1 (xs.getD j undef) (ts.getD j []).length ((ts.getD j []).map iv)) ∧ (∀ j, i ≤ j → xs.getD j undef = tvs.getD j undef) ∧ (∀ x ∈ fz, x ∈ fy)) (k := tvs.length - 0) (E0 := [(41, ii 0)]) (M0 := [(2, oz2_3)]) (fz := fz) ⟨0, tvs, oz2_3, rfl, rfl, rfl, by omega, ho2_3, rfl, (fun j hj => absurd hj (Nat.not_lt_zero j)), (fun _ _ => rfl), (fun _ h => h)⟩ ⟨rfl, rfl, rfl, rfl, rfl, rfl, rfl, trivial⟩ ⟨rfl, rfl, rfl, trivial⟩ (by repeat (first | exact zq | exact zj _ | apply zg rfl)) ?_
  rintro kk E m fy ⟨i, xs, oz, rfl, rfl, rfl, hf1_0, hf1_1, hf1_2, hf1_3, hf1_4, hf1_5⟩
  simp only [zB, zA]
  refine (gt) ?_
  refine (Qcd) (fun hc1=>?_) fun hc1=>?_
  ·have hc1 : i < tvs.length := by omega
   refine Qk<|Qs<|Qb<|(g5) ?_
   refine xf hf1_1.shows (Uu 27) (Uz 25) rfl rfl (by omega) rfl ?_
   refine (QS) ?_
   refine yc hf1_1.shows (xF 2 rfl ⟨[], trivial⟩) (Uu 25) rfl rfl (xU (by omega)) rfl ?_
   refine zi (hf1_4 i (Nat.le_refl i)) ?_
   refine (g7)<|(Qq ⟨[], 4, [], none, none⟩)<|(Qf 0)<|(Qf 5)<|(QV 5 0)<|(ga) ?_
   refine yf [(0, _), (1, _), (2, _)] (by repeat (first | exact zq | exact zj _ | apply zg rfl)) ⟨rfl, rfl, rfl, trivial⟩ rfl rfl rfl (Un 64) zo ((Xb (tvs.getD i undef) (ts.getD i []).length ((ts.getD i []).map iv) (hT.2 i (by omega)) z1p (zl _ (List.mem_cons_of_mem _ (List.mem_cons_of_mem _ (zhQ (by omega)))))).imp fun u l1 nw ⟨h1, v9, h2, h3⟩ => ⟨h1, h2 ▸ h3.shows⟩) (yQ 1 ((ts.getD i []).map iv) (ts.getD i []).length (by simp)) rfl rfl fun v3_4 nw3_4 hD3_4 => ?_
   simp only [zA]
   revert v3_4
   intro uN sN
   refine xf hf1_1.shows (Uu 27) (Uz 25) rfl rfl (by omega) rfl ?_
   refine (QS) ?_
   refine ziK (i := 2) hf1_1 (Uz 25) rfl rfl (z5 sN) rfl (by omega) rfl fun oz3_5 ho3_5 => ?_
   refine Qn<|(go) ?_
   refine X9 (E'' := [(41, ii (i + 1))]) (M'' := [(2, _)]) (fz' := (fy ++ nw3_4)) ⟨i + 1, xs.set i uN, _, rfl, rfl, rfl, by omega, ho3_5, (by rw [List.length_set]; exact hf1_2), (fun j hj => by rw [zdc (by omega)]; by_cases e : j = i; (rw [if_pos e, e]; exact Shows.mono sN (fun x hx => List.mem_append_right _ hx)); (rw [if_neg e]; exact Shows.mono (hf1_3 j (by omega)) (fun x hx => List.mem_append_left _ hx))), (fun j hj => by rw [zdc (by omega), if_neg (by omega)]; exact hf1_4 j (by omega)), (fun x hx => List.mem_append_left _ (hf1_5 x hx))⟩ ⟨rfl, rfl, rfl, rfl, rfl, rfl, rfl, trivial⟩ ⟨rfl, rfl, rfl, trivial⟩ (by repeat (first | exact zq | exact zj _ | apply zg rfl)) (by omega)
  ·have hz1 : i = tvs.length := by omega
   refine Qe<|(gf) ?_
   refine xJ 2 [(0, _), (1, _)] rfl rfl (by repeat (first | exact zq | exact zj _ | apply zg rfl)) ⟨rfl, rfl, trivial⟩ rfl rfl ?_
   simp only [zA]
   refine z7 (i := 1) (Uz 37) rfl rfl (z3 _ _) (za ⟨fun _ => rfl, fun _ => rfl, fun _ => z5 hf0_4, fun _ => z5 (hf0_1 (by omega)), fun _ => z5 (hf0_2 (by omega)), fun _ => z5 hf1_1.shows, fun _ => rfl, fun _ => rfl, fun _ => rfl, fun _ => rfl, fun _ => rfl, fun _ => rfl, fun _ => rfl, fun _ => rfl, fun _ => rfl, fun _ => rfl, fun _ => rfl, fun _ => rfl, fun _ => rfl, fun _ => rfl, fun _ => rfl, fun _ => z5 hf0_3, fun _ => rfl, trivial⟩) rfl z8 (.inl rfl) ?_
   refine Qn<|Qr ?_
   exact ⟨_, _, (fy ++ oz.toList), rfl, yb 1, ⟨uP, a0, a1, _, uK, xs, rfl, hf0_4.mono (fun x hx => List.mem_append_left _ (hf1_5 x hx)), Shows.mono (show Shows oz.toList 1 _ xs.length xs by rw [hf1_2]; exact hf1_1.shows) (fun x hx => List.mem_append_right _ hx), yR (zeB ((hf0_1 (by omega)).mono hf1_5) ((hf0_2 (by omega)).mono hf1_5) (by omega) (fun j hj => hf1_3 j (by omega))) (fun x hx => List.mem_append_left _ hx), hf0_3.mono (fun x hx => List.mem_append_left _ (hf1_5 x hx)), z5 hf0_4, z5 (hf0_1 (by omega)), z5 (hf0_2 (by omega)), z5 hf1_1.shows, z5 hf0_3⟩, (by repeat (first | exact zq | exact zj _ | apply zg rfl))⟩
theorem VZ (r : Nat) (es : List Ev) (w k : Nat) (hw : w < 2) (hk : k = 1 ∨ k = 2) : Fq G [(⟨r, kst (stE es), 216⟩ : Blk)] 209 #[ptr r, ii w, ii k] (fun v l1 nw => nw = [] ∧ ∃ c', l1 = [⟨r, c', 216⟩] ∧ (v = Value.bool (!(hap es w k)) ∧ ((!(hap es w k)) = true → c' = kst (stE (es ++ [(w, k)]))))) := by
 refine zdp (n := 22) Tryz.func209 rfl rfl (by simp) (xM [ptr r, ii w, ii k] 0) (yi _) ?_
 refine (gb)<|(gc)<|(ga) ?_
 refine yr rfl rfl ?_
 refine (Qf 0)<|(QB (3 * w))<|(QB (3 * w + k)) ?_
 refine yg (i := 0) (Uu 4) rfl rfl rfl (yB (by omega)) rfl ⟨[], trivial⟩ ?_
 refine zi (show _ = Value.bool (hap es w k) from congrArg Value.bool (W1 hk hw)) ?_
 refine Qn ?_
 refine ze rfl ?_ ?_
 ·intro hc0
  refine (gw) ?_
  exact ⟨_, _, _, rfl, yt, (by first | exact ⟨by rw [hc0]; rfl, fun _ => zai hk hw⟩ | exact ⟨by rw [hc0]; rfl, fun h => by rw [hc0] at h; cases h⟩), 0, rfl⟩
 ·intro hc0
  refine Qk<|(g5)<|(ga) ?_
  refine yr rfl rfl ?_
  refine (Qf 0)<|(QB (3 * w))<|(QB (3 * w + k)) ?_
  refine z2a (i := 0) (Uz 4) rfl rfl rfl rfl (by omega) (.inl rfl) ?_
  refine Qn<|(gw) ?_
  exact ⟨_, _, _, rfl, yt, (by first | exact ⟨by rw [hc0]; rfl, fun _ => zai hk hw⟩ | exact ⟨by rw [hc0]; rfl, fun h => by rw [hc0] at h; cases h⟩), 0, rfl⟩
theorem z7W (t : Nat) : Fp G 264 #[ii t] (.agg (arr .i64 2 (ltr t))) := by
 refine Qf1 Tryz.func264 ?_
 refine (g4)<|(QH 0) fun r1=>Qn<|(gc)<|Qn<|Qb<|(g4)<|(Qc)<|(g3) ?_
 refine ze rfl ?_ ?_
 ·intro hc0
  obtain rfl : t = 3 := by have := of_decide_eq_true hc0; omega
  refine (g4) ?_
  refine yG (arr .i64 2 (ltr 3)) (Ub 324 rfl) (Uu 324 rfl) (Uz 3 rfl) rfl (by kernel_rfl) rfl ?_
  refine (Qt 0)<|Qn<|Qr ?_
  first | (rw [show ltr t = ltr 6 by funext j; unfold ltr; rw [if_neg hn0, if_neg hn1, if_neg hn2]; rfl]) | skip
  exact ⟨_, rfl, ya 0⟩
 ·intro hc0
  have hn0 : ¬ t = 3 := by have := of_decide_eq_false hc0; omega
  refine (g4)<|(Qc)<|(g3) ?_
  refine ze rfl ?_ ?_
  ·intro hc1
   obtain rfl : t = 4 := by have := of_decide_eq_true hc1; omega
   refine (g4) ?_
   refine yG (arr .i64 2 (ltr 4)) (Ub 324 rfl) (Uu 324 rfl) (Uz 3 rfl) rfl (by kernel_rfl) rfl ?_
   refine (Qt 0)<|Qn<|Qr ?_
   first | (rw [show ltr t = ltr 6 by funext j; unfold ltr; rw [if_neg hn0, if_neg hn1, if_neg hn2]; rfl]) | skip
   exact ⟨_, rfl, ya 0⟩
  ·intro hc1
   have hn1 : ¬ t = 4 := by have := of_decide_eq_false hc1; omega
   refine (g4)<|(Qc)<|(g3) ?_
   refine ze rfl ?_ ?_
   ·intro hc2
    obtain rfl : t = 5 := by have := of_decide_eq_true hc2; omega
    refine (g4) ?_
    refine yG (arr .i64 2 (ltr 5)) (Ub 324 rfl) (Uu 324 rfl) (Uz 3 rfl) rfl (by kernel_rfl) rfl ?_
    refine (Qt 0)<|Qn<|Qr ?_
    first | (rw [show ltr t = ltr 6 by funext j; unfold ltr; rw [if_neg hn0, if_neg hn1, if_neg hn2]; rfl]) | skip
    exact ⟨_, rfl, ya 0⟩
   ·intro hc2
    have hn2 : ¬ t = 5 := by have := of_decide_eq_false hc2; omega
    refine Qk<|(g4) ?_
    refine yG (arr .i64 2 (ltr 6)) (Ub 324 rfl) (Uu 324 rfl) (Uz 3 rfl) rfl (by kernel_rfl) rfl ?_
    refine (Qt 0)<|Qn<|Qr ?_
    first | (rw [show ltr t = ltr 6 by funext j; unfold ltr; rw [if_neg hn0, if_neg hn1, if_neg hn2]; rfl]) | skip
    exact ⟨_, rfl, ya 0⟩
theorem z21 (r : Nat) (s : Nat → Bool) (w : Nat) (hw : w < 2) : Fp ((⟨r, kst s, 216⟩ : Blk) :: G) 211 #[ptr r, ii w] (.bool (mlS s w)) := by
 have hmo : 4 ≤ XQ (w : Int) ∧ XQ (w : Int) ≤ 5 := by unfold XQ; split <;> omega
 have hmf : 4 ≤ Xz (w : Int) ∧ Xz (w : Int) ≤ 5 := by unfold Xz; split <;> omega
 refine Qf1 Tryz.func211 ?_
 refine (gb)<|(g4)<|(gv)<|(Qc)<|Qn ?_
 refine z1k [(0, _), (1, _), (4, _), (7, _), (8, _)] [(5, ii (XQ w)), (6, ii (Xz w))] [] ⟨rfl, rfl, rfl, rfl, rfl, trivial⟩ trivial ?_ ?_
 ·skip
  refine (Qcd) (fun hc0=>?_) fun hc0=>?_
  ·refine Qp<|(Qm)<|(Qm)<|(Qa)<|(Qa)<|Qn ?_
   exact ⟨⟨rfl, rfl, rfl, rfl, rfl, trivial⟩, ⟨(by first | rw [XQ, if_pos (by assumption)]; rfl | rw [XQ, if_neg (by assumption)]; rfl), (by first | rw [Xz, if_pos (by assumption)]; rfl | rw [Xz, if_neg (by assumption)]; rfl), trivial⟩, trivial⟩
  ·refine Qk ?_
   exact ⟨⟨rfl, rfl, rfl, rfl, rfl, trivial⟩, ⟨(by first | rw [XQ, if_pos (by assumption)]; rfl | rw [XQ, if_neg (by assumption)]; rfl), (by first | rw [Xz, if_pos (by assumption)]; rfl | rw [Xz, if_neg (by assumption)]; rfl), trivial⟩, trivial⟩
 ·simp only [zB]
  refine (gu) ?_
  refine zW [(0, _), (1, _), (4, _), (5, _), (6, _), (7, _), (8, _)] [(25, .bool (s 13 && !(s (3 * w + 1))))] [] ⟨rfl, rfl, rfl, rfl, rfl, rfl, rfl, trivial⟩ trivial ?_ ?_
  ·skip
   refine (Qm) ?_
   refine yr rfl rfl ?_
   refine (Qf 6)<|(QA 13 7) ?_
   refine yo (i := 0) (Uu 4) rfl rfl rfl (yB (by decide)) rfl ?_
   refine (Av (Value.bool (s 13)))<|(Qm) ?_
   refine zM (fun hb0 => ?_) (fun hb0 => ?_)
   ·skip
    refine (Qy)<|(gk) ?_
    refine yr rfl rfl ?_
    refine (Qy)<|(Qf 0)<|(Qy)<|(QB (3 * w))<|(Qy)<|(QA (3 * w + 1) 1)<|(Qy) ?_
    refine yo (i := 0) (Uu 4) rfl rfl rfl (yB (by omega)) rfl ?_
    refine (Av (Value.bool (s (3 * w + 1))))<|(Qy)<|(Q0)<|(QT)<|Qn ?_
    exact ⟨⟨rfl, rfl, rfl, rfl, rfl, rfl, rfl, trivial⟩, ⟨zf (by rw [hb0] <;> rfl), trivial⟩, trivial⟩
   ·skip
    refine (gm)<|(gm)<|(QF)<|Qn ?_
    exact ⟨⟨rfl, rfl, rfl, rfl, rfl, rfl, rfl, trivial⟩, ⟨zf (by rw [hb0] <;> rfl), trivial⟩, trivial⟩
  ·simp only [zB]
   refine ze rfl ?_ ?_
   ·intro hc1
    rw [show mlS s w = false by rw [mlS, hc1]; rfl]
    refine (gw) ?_
    exact ⟨_, rfl, yt⟩
   ·intro hc1
    have hz1 := hc1
    refine Qk<|(gu) ?_
    refine zW [(0, _), (1, _), (4, _), (5, _), (6, _), (7, _), (8, _), (25, _)] [(39, .bool (s (6 + XQ w) && !(s 9)))] [] ⟨rfl, rfl, rfl, rfl, rfl, rfl, rfl, rfl, trivial⟩ trivial ?_ ?_
    ·skip
     refine (ga) ?_
     refine yr rfl rfl ?_
     refine (Qf 6)<|(QB (6 + XQ w)) ?_
     refine yo (i := 0) (Uu 4) rfl rfl rfl (yB (by omega)) rfl ?_
     refine (Av (Value.bool (s (6 + XQ w))))<|(Qm) ?_
     refine zM (fun hb1 => ?_) (fun hb1 => ?_)
     ·skip
      refine (Qy)<|(g8) ?_
      refine yr rfl rfl ?_
      refine (Qy)<|(Qf 6)<|(Qy)<|(QA 9 3)<|(Qy) ?_
      refine yo (i := 0) (Uu 4) rfl rfl rfl (yB (by decide)) rfl ?_
      refine (Av (Value.bool (s 9)))<|(Qy)<|(Q0)<|(QT)<|Qn ?_
      exact ⟨⟨rfl, rfl, rfl, rfl, rfl, rfl, rfl, rfl, trivial⟩, ⟨zf (by rw [hb1] <;> rfl), trivial⟩, trivial⟩
     ·skip
      refine (gm)<|(g6)<|(QF)<|Qn ?_
      exact ⟨⟨rfl, rfl, rfl, rfl, rfl, rfl, rfl, rfl, trivial⟩, ⟨zf (by rw [hb1] <;> rfl), trivial⟩, trivial⟩
    ·simp only [zB]
     refine ze rfl ?_ ?_
     ·intro hc2
      rw [show mlS s w = false by rw [mlS, hz1, hc2]; rfl]
      refine (gw) ?_
      exact ⟨_, rfl, yt⟩
     ·intro hc2
      rw [show mlS s w = (!(s 12) || s (6 + Xz w)) by rw [mlS, hz1, hc2]; rfl]
      refine Qk<|(g4) ?_
      refine zW [(0, _), (1, _), (5, _), (6, _), (7, _), (8, _), (25, _), (39, _)] [(4, .bool (!(s 12) || s (6 + Xz w)))] [] ⟨rfl, rfl, rfl, rfl, rfl, rfl, rfl, rfl, trivial⟩ trivial ?_ ?_
      ·skip
       refine (Qm) ?_
       refine yr rfl rfl ?_
       refine (Qf 6)<|(QA 12 6) ?_
       refine yo (i := 0) (Uu 4) rfl rfl rfl (yB (by decide)) rfl ?_
       refine (Av (Value.bool (s 12)))<|(Q0)<|(Qm) ?_
       refine zM (fun hb2 => ?_) (fun hb2 => ?_)
       ·skip
        refine (gm)<|(g6)<|(QT)<|(g3) ?_
        exact ⟨⟨rfl, rfl, rfl, rfl, rfl, rfl, rfl, rfl, trivial⟩, ⟨zf (by rw [hb2] <;> rfl), trivial⟩, trivial⟩
       ·skip
        refine (Qy)<|(gk) ?_
        refine yr rfl rfl ?_
        refine (Qy)<|(Qf 6)<|(Qy)<|(QB (6 + Xz w))<|(Qy) ?_
        refine yo (i := 0) (Uu 4) rfl rfl rfl (yB (by omega)) rfl ?_
        refine (Av (Value.bool (s (6 + Xz w))))<|(QF)<|(g3) ?_
        exact ⟨⟨rfl, rfl, rfl, rfl, rfl, rfl, rfl, rfl, trivial⟩, ⟨zf (by rw [hb2] <;> rfl), trivial⟩, trivial⟩
      ·simp only [zB]
       refine Qr ?_
       exact ⟨_, rfl, yt⟩
theorem WG (v : Value) (vs : List Value) (ls : List (List Int)) (hv : Shows G 1 v vs.length vs) (hL : zF G vs ls) (hn : vs.length ≤ 1000000) : Fp G 112 #[v] (ii (yk ls)) := by
 have hvl := hL.1
 refine Qf1 Tryz.func112 ?_
 refine (gb)<|(gc)<|(QC hv)<|(Qm)<|Qn<|Qb ?_
 refine QzK [(7, _), (8, _)] [] (fun kk E m => ∃ (i : Nat), kk = vs.length - i ∧ E = [(9, ii i)] ∧ m = [] ∧ (i ≤ vs.length) ∧ (∀ q, q < i → (ls.getD q []).length ≤ 6 ∧ (ls.getD q []).any wu = false)) ⟨0, rfl, rfl, rfl, by omega, fun _ h => absurd h (Nat.not_lt_zero _)⟩ ⟨rfl, rfl, rfl, trivial⟩ trivial ?_
 rintro kk E m ⟨i, rfl, rfl, rfl, hf0_0, hf0_1⟩
 simp only [zB, zA]
 refine (gt) ?_
 refine (Qcd) (fun hc0=>?_) fun hc0=>?_
 ·have hc0 : i < vs.length := by omega
  refine Qk<|Qs<|Qb<|(g4) ?_
  refine xf hv (Uu 27) (Uz 25) rfl rfl (by omega) rfl ?_
  refine (QS) ?_
  refine yc hv zo (Uu 25) rfl rfl (xU (by omega)) rfl ?_
  refine (gx)<|(QC (hL.2 i (by omega)))<|(QG)<|Qn ?_
  refine (Qcd) (fun hc1=>?_) fun hc1=>?_
  ·rw [Vl (by omega) hf0_1, yk, if_pos (by omega)]
   refine (gw) ?_
   first | rw [YP (fun q hq => hf0_1 q (by omega))] | skip
   exact ⟨_, rfl, yt⟩
  ·refine Qk<|Qs<|Qp<|(Qm)<|(QC (hL.2 i (by omega)))<|(Qm)<|Qn<|Qb ?_
   refine QzK [(7, _), (8, _), (9, _), (16, _), (17, _)] [] (fun kk E m => ∃ (j : Nat), kk = (ls.getD i []).length - j ∧ E = [(18, ii j)] ∧ m = [] ∧ (j ≤ (ls.getD i []).length) ∧ (∀ p, p < j → wu ((ls.getD i []).getD p 0) = false)) ⟨0, rfl, rfl, rfl, by omega, fun _ h => absurd h (Nat.not_lt_zero _)⟩ ⟨rfl, rfl, rfl, rfl, rfl, rfl, trivial⟩ trivial ?_
   rintro kk E m ⟨j, rfl, rfl, rfl, hf1_0, hf1_1⟩
   simp only [zB, zA]
   refine (gt) ?_
   refine (Qcd) (fun hc2=>?_) fun hc2=>?_
   ·have hc2 : j < (ls.getD i []).length := by omega
    refine Qk<|Qs<|Qb<|(g4) ?_
    refine xf (hL.2 i (by omega)) (Uu 25) (Uz 3) rfl rfl (by omega) rfl ?_
    refine (QS) ?_
    refine yc (hL.2 i (by omega)) zo (Uu 3) rfl rfl (z1v (by omega)) rfl ?_
    refine (g3)<|(g4) ?_
    refine zW [(6, _), (7, _), (8, _), (9, _), (16, _), (17, _), (18, _), (19, _), (20, _), (21, _)] [(27, .bool (wu ((ls.getD i []).getD j 0)))] [] ⟨rfl, rfl, rfl, rfl, rfl, rfl, rfl, rfl, rfl, rfl, trivial⟩ trivial ?_ ?_
    ·skip
     refine (Qm)<|(Ql)<|(Qm) ?_
     refine zM (b := decide ((ls.getD i []).getD j 0 < 1)) (fun hb0 => ?_) (fun hb0 => ?_)
     ·skip
      refine (g6)<|(QT)<|Qn ?_
      exact ⟨⟨rfl, rfl, rfl, rfl, rfl, rfl, rfl, rfl, rfl, rfl, trivial⟩, ⟨zf (by rw [wu, hb0] <;> rfl), trivial⟩, trivial⟩
     ·skip
      refine (Qy)<|(g8)<|(QG)<|(QF)<|Qn ?_
      exact ⟨⟨rfl, rfl, rfl, rfl, rfl, rfl, rfl, rfl, rfl, rfl, trivial⟩, ⟨zf (by rw [wu, hb0] <;> rfl), trivial⟩, trivial⟩
    ·simp only [zB]
     refine ze rfl ?_ ?_
     ·intro hc3
      rw [Vl (by omega) hf0_1, yk, if_neg (by omega), zlN (by omega) hc3, if_pos rfl]
      refine (gw) ?_
      first | rw [YP (fun q hq => hf0_1 q (by omega))] | skip
      exact ⟨_, rfl, yt⟩
     ·intro hc3
      have hcf := hc3
      refine Qk<|(go) ?_
      refine QzL ⟨j + 1, rfl, rfl, rfl, by omega, fun p h => by by_cases e : p = j; (subst e; exact hcf); exact hf1_1 p (by omega)⟩ ⟨rfl, rfl, rfl, rfl, rfl, rfl, trivial⟩ trivial ?_
      omega
   ·have hz1 : j = (ls.getD i []).length := by omega
    refine Qe<|(go) ?_
    refine QzL ⟨i + 1, rfl, rfl, rfl, by omega, fun q h => by by_cases e : q = i; (subst e; exact ⟨by omega, zfo (fun p hp => hf1_1 p (by omega))⟩); exact hf0_1 q (by omega)⟩ ⟨rfl, rfl, rfl, trivial⟩ trivial ?_
    omega
 ·have hz0 : i = vs.length := by omega
  refine Qe<|(gw) ?_
  first | rw [YP (fun q hq => hf0_1 q (by omega))] | skip
  exact ⟨_, rfl, yt⟩
theorem zgW (r : Nat) (es : List Ev) (w : Nat) (hw : w < 2) (v : Value) (l : LN) (hv : Shows G 1 v l.length ((ci l).map iv)) (ht : ∀ x ∈ l, 1 ≤ x ∧ x ≤ 7) (hz : l.length ≤ 1000) : Fq G [(⟨r, kst (stE es), 216⟩ : Blk)] 161 #[ptr r, ii w, v] (fun u l1 nw => nw = [] ∧ ∃ c', l1 = [⟨r, c', 216⟩] ∧ (u = Value.bool (z50 es w l) ∧ ((z50 es w l) = true → c' = kst (stE (es ++ yv w l))))) := by
 refine zdp (n := 29) Tryz.func161 rfl rfl (by simp) (xM [ptr r, ii w, v] 0) (yi _) ?_
 refine (gb)<|(gc)<|(QC hv)<|(Qm)<|Qn<|Qb ?_
 refine QzK [(0, _), (1, _), (9, _), (10, _)] [] (fun kk E m => ∃ (j : Nat), kk = l.length - j ∧ E = [(11, ii j)] ∧ m = [(0, some ⟨r, kst (stE (es ++ (yv w l).take j)), 216⟩)] ∧ (j ≤ l.length) ∧ (∀ t, t < j → ZH (es ++ (yv w l).take t) (w, l.getD t 0) = true)) ⟨0, rfl, rfl, rfl, by omega, fun t ht => absurd ht (Nat.not_lt_zero t)⟩ ⟨rfl, rfl, rfl, rfl, rfl, trivial⟩ ⟨(by rw [z3k] <;> rfl), trivial⟩ ?_
 rintro kk E m ⟨j, rfl, rfl, rfl, hf0_0, hf0_1⟩
 simp only [zB, zA]
 refine (gt) ?_
 refine (Qcd) (fun hc0=>?_) fun hc0=>?_
 ·have hc0 : j < l.length := by omega
  refine Qk<|Qs<|Qb<|(g4) ?_
  refine xf hv (Uu 25) (Uz 3) rfl rfl (by omega) rfl ?_
  refine (QS) ?_
  refine yc hv zo (Uu 3) rfl rfl (z0x (by omega)) rfl ?_
  refine z0d fun x hx => ?_
  refine (g3) ?_
  have hx9 := ht (l.getD j 0) (by rw [List.getD_eq_getElem?_getD, List.getElem?_eq_getElem (by omega)]; exact List.getElem_mem _)
  rw [← hx] at hx9
  refine Qs ?_
  rcases (by omega : x = 1 ∨ x = 2 ∨ 2 < x) with e1 | e2 | e3
  ·skip
   refine QR ⟨[], 5, [], none, none⟩<|(Qm)<|(QN)<|(Qaf)<|(Qm)<|(g6)<|(QF)<|(gk)<|(gk) ?_
   refine vm 0 rfl rfl (Un 209) rfl (fun _ h => by cases h) (VZ (G := []) r (es ++ (yv w l).take j) w x hw (.inl e1)) ⟨_, _, rfl, fun _ => rfl⟩ rfl rfl fun v3_1 c3_1 hS3_1 => ?_
   obtain ⟨rfl, hq1⟩ := hS3_1
   refine (Qy)<|(Q0)<|(QF)<|Qn ?_
   refine ze rfl ?_ ?_
   ·intro hc1
    have hap1 : hap (es ++ (yv w l).take j) w x = true := by simpa using hc1
    have hbad : ZH (es ++ (yv w l).take j) (w, l.getD j 0) = false := by rw [ZS, ← hx, hap1]; simp
    have hrow := z0S (show j < l.length by omega) hbad
    refine (gw) ?_
    exact ⟨_, _, _, rfl, yt, (by first | exact ⟨by rw [hrow], fun h => by rw [hrow] at h; cases h⟩ | (rw [hz0, Z8]; exact ⟨by rw [z0o (fun t h => hf0_1 t (by omega))], fun _ => rfl⟩)), 0, rfl⟩
   ·intro hc1
    have hap0 : hap (es ++ (yv w l).take j) w x = false := by simpa using hc1
    have hok : ZH (es ++ (yv w l).take j) (w, l.getD j 0) = true := by rw [ZS, ← hx, hap0, decide_eq_true (by omega)]; rfl
    obtain rfl := hq1 (by rw [hap0]; rfl)
    refine Qk<|(go) ?_
    refine QzL ⟨j + 1, rfl, rfl, rfl, by omega, fun t ht => by rcases (by omega : t < j ∨ t = j) with h | rfl; exact hf0_1 t h; exact hok⟩ ⟨rfl, rfl, rfl, rfl, rfl, trivial⟩ ⟨(by rw [WO (by omega), ← hx] <;> rfl), trivial⟩ ?_
    omega
  ·skip
   refine QR ⟨[], 5, [], none, none⟩<|(Qm)<|(QN)<|(Qat)<|(gk)<|(QN)<|(Qaf)<|(QT)<|(gk)<|(gk) ?_
   refine vm 0 rfl rfl (Un 209) rfl (fun _ h => by cases h) (VZ (G := []) r (es ++ (yv w l).take j) w x hw (.inr e2)) ⟨_, _, rfl, fun _ => rfl⟩ rfl rfl fun v3_1 c3_1 hS3_1 => ?_
   obtain ⟨rfl, hq1⟩ := hS3_1
   refine (Qy)<|(Q0)<|(QF)<|Qn ?_
   refine ze rfl ?_ ?_
   ·intro hc1
    have hap1 : hap (es ++ (yv w l).take j) w x = true := by simpa using hc1
    have hbad : ZH (es ++ (yv w l).take j) (w, l.getD j 0) = false := by rw [ZS, ← hx, hap1]; simp
    have hrow := z0S (show j < l.length by omega) hbad
    refine (gw) ?_
    exact ⟨_, _, _, rfl, yt, (by first | exact ⟨by rw [hrow], fun h => by rw [hrow] at h; cases h⟩ | (rw [hz0, Z8]; exact ⟨by rw [z0o (fun t h => hf0_1 t (by omega))], fun _ => rfl⟩)), 0, rfl⟩
   ·intro hc1
    have hap0 : hap (es ++ (yv w l).take j) w x = false := by simpa using hc1
    have hok : ZH (es ++ (yv w l).take j) (w, l.getD j 0) = true := by rw [ZS, ← hx, hap0, decide_eq_true (by omega)]; rfl
    obtain rfl := hq1 (by rw [hap0]; rfl)
    refine Qk<|(go) ?_
    refine QzL ⟨j + 1, rfl, rfl, rfl, by omega, fun t ht => by rcases (by omega : t < j ∨ t = j) with h | rfl; exact hf0_1 t h; exact hok⟩ ⟨rfl, rfl, rfl, rfl, rfl, trivial⟩ ⟨(by rw [WO (by omega), ← hx] <;> rfl), trivial⟩ ?_
    omega
  ·skip
   refine Qp<|(Qm)<|(QN)<|(Qat)<|(gk)<|(QN)<|(Qat)<|(QT)<|(Qm)<|(gm)<|(Qo)<|(QT)<|Qn<|(Qct) ?_
   have hbad : ZH (es ++ (yv w l).take j) (w, l.getD j 0) = false := by rw [ZS, ← hx, decide_eq_false (by omega)]; rfl
   have hrow := z0S (show j < l.length by omega) hbad
   refine (gw) ?_
   exact ⟨_, _, _, rfl, yt, (by first | exact ⟨by rw [hrow], fun h => by rw [hrow] at h; cases h⟩ | (rw [hz0, Z8]; exact ⟨by rw [z0o (fun t h => hf0_1 t (by omega))], fun _ => rfl⟩)), 0, rfl⟩
 ·have hz0 : j = l.length := by omega
  refine Qe<|(gw) ?_
  exact ⟨_, _, _, rfl, yt, (by first | exact ⟨by rw [hrow], fun h => by rw [hrow] at h; cases h⟩ | (rw [hz0, Z8]; exact ⟨by rw [z0o (fun t h => hf0_1 t (by omega))], fun _ => rfl⟩)), 0, rfl⟩
theorem ziS (r : Nat) (es : List Ev) (w t : Nat) (h3 : 3 ≤ t) (h6 : t ≤ 6) : Fq G [(⟨r, kst (stE es), 216⟩ : Blk)] 240 #[ptr r, ii t] (fun v l1 nw => nw = [] ∧ ∃ c', l1 = [⟨r, c', 216⟩] ∧ (v = Value.bool (okT es w t) ∧ ((okT es w t) = true → c' = kst (stE (es ++ [(w, t)]))))) := by
 have hl0 := z41 t 0
 have hl1 := z41 t 1
 have hmb := zdd (es := es) (w := w) h3 h6
 refine zdp (n := 41) Tryz.func240 rfl rfl (by simp) (xM [ptr r, ii t] 0) (yi _) ?_
 refine (gb)<|(g5) ?_
 refine (Ca (z7W t))<|(QH 1) fun r2=>(Qt 1)<|Qn<|Qs<|(gy) ?_
 refine zW [(0, _), (1, _), (4, _), (5, _), (6, _), (7, _)] [(35, .bool (zcB (stE es) t))] [(0, some _), (1, some _)] ⟨rfl, rfl, rfl, rfl, rfl, rfl, trivial⟩ ⟨rfl, rfl, trivial⟩ ?_ ?_
 ·skip
  refine (ga) ?_
  refine yr rfl rfl ?_
  refine (Qf 6)<|(QB (6 + t)) ?_
  refine yg (i := 0) (Uu 4) rfl rfl rfl (yB (by omega)) rfl ⟨[], trivial⟩ ?_
  refine (Av (Value.bool (stE es (6 + t))))<|(Qm) ?_
  refine zM (fun hb0 => ?_) (fun hb0 => ?_)
  ·skip
   refine (gm)<|(gm)<|(Qo)<|(QT)<|(Qm)<|(gm)<|(gm)<|(Qo)<|(QT)<|Qn ?_
   exact ⟨⟨rfl, rfl, rfl, rfl, rfl, rfl, trivial⟩, ⟨zf (by rw [zcB, hb0] <;> rfl), trivial⟩, ⟨rfl, rfl, trivial⟩⟩
  ·skip
   refine (Qy)<|(g8)<|(Qj 0)<|(Qy)<|(Q1 1)<|(Qy) ?_
   refine yr rfl rfl ?_
   refine (Qy)<|(Qf 0)<|(Qy)<|(QA 0 0)<|(Qy)<|(Qi)<|(Qy) ?_
   refine yg (i := 0) (Uu 4) rfl rfl rfl (yB (by omega)) rfl ⟨[], trivial⟩ ?_
   refine zi (show _ = Value.bool (stE es (ltr t 0)) by first | rfl | (rw [Nat.zero_add])) ?_
   refine (Qy)<|(Q0)<|(QF)<|(Qm) ?_
   refine zM (fun hb1 => ?_) (fun hb1 => ?_)
   ·skip
    refine (gm)<|(gm)<|(Qo)<|(QT)<|Qn ?_
    exact ⟨⟨rfl, rfl, rfl, rfl, rfl, rfl, trivial⟩, ⟨zf (by rw [zcB, hb0, hb1] <;> rfl), trivial⟩, ⟨rfl, rfl, trivial⟩⟩
   ·skip
    refine (Qy)<|(g8)<|(Qj 1)<|(Qy)<|(Q1 1)<|(Qy) ?_
    refine yr rfl rfl ?_
    refine (Qy)<|(Qf 0)<|(Qy)<|(QA 3 1)<|(Qy)<|(QB (3 + ltr t 1))<|(Qy) ?_
    refine yg (i := 0) (Uu 4) rfl rfl rfl (yB (by omega)) rfl ⟨[], trivial⟩ ?_
    refine (Av (Value.bool (stE es (3 + ltr t 1))))<|(Qy)<|(Q0)<|(QF)<|Qn ?_
    exact ⟨⟨rfl, rfl, rfl, rfl, rfl, rfl, trivial⟩, ⟨zf (by rw [zcB, hb0, hb1] <;> rfl), trivial⟩, ⟨rfl, rfl, trivial⟩⟩
 ·simp only [zB]
  refine ze rfl ?_ ?_
  ·intro hc0
   have hno : okT es w t = false := by rw [hc0] at hmb; simpa using hmb
   refine (gw) ?_
   exact ⟨_, _, _, rfl, yt, (by first | exact ⟨by rw [hno], fun _ => Yn h3 (by omega)⟩ | exact ⟨by rw [hno], fun h => by rw [hno] at h; cases h⟩), 0, rfl⟩
  ·intro hc0
   have hno : okT es w t = true := by rw [hc0] at hmb; simpa using hmb
   refine Qk<|(g5)<|(Qm) ?_
   refine yr rfl rfl ?_
   refine (Qf 6)<|(QB (6 + t)) ?_
   refine z2a (i := 0) (Uz 4) rfl rfl rfl rfl (by omega) (.inl rfl) ?_
   refine Qn<|(gw) ?_
   exact ⟨_, _, _, rfl, yt, (by first | exact ⟨by rw [hno], fun _ => Yn h3 (by omega)⟩ | exact ⟨by rw [hno], fun h => by rw [hno] at h; cases h⟩), 0, rfl⟩
theorem zln (r : Nat) (es : List Ev) (w x : Nat) (hw : w < 2) (h1 : 1 ≤ x) (h7 : x ≤ 7) : Fq G [(⟨r, kst (stE es), 216⟩ : Blk)] 210 #[ptr r, ii w, ii x] (fun v l1 nw => nw = [] ∧ ∃ c', l1 = [⟨r, c', 216⟩] ∧ (v = Value.bool (okT es w x) ∧ ((okT es w x) = true → c' = kst (stE (es ++ [(w, x)]))))) := by
 refine zdp (n := 35) Tryz.func210 rfl rfl (by simp) (xM [ptr r, ii w, ii x] 0) (yi _) ?_
 refine (gb)<|(gc)<|Qn<|Qb<|(g4)<|(Qc)<|(g3) ?_
 refine ze rfl ?_ ?_
 ·intro hc0
  obtain rfl : x = 1 := by have := of_decide_eq_true hc0; omega
  refine Qs<|QR ⟨[], 5, [], none, none⟩<|(ga)<|(Qm) ?_
  refine vm 0 rfl rfl (Un 209) rfl (fun _ h => by cases h) (VZ (G := []) r es w 1 hw (.inl rfl)) ⟨_, _, rfl, fun _ => rfl⟩ rfl rfl fun v2_1 c2_1 hS2_1 => ?_
  obtain ⟨rfl, hq1⟩ := hS2_1
  refine (gh) ?_
  exact ⟨_, _, _, rfl, yt, (by first | exact ⟨by rw [vi]; rfl, fun h => hq1 (by rw [vi] at h; exact h)⟩ | exact ⟨by rw [yD hw, hml]; rfl, fun h => hq2 (by rw [yD hw, hml] at h; exact h)⟩ | exact ⟨by rw [yD hw, hml]; rfl, fun h => by rw [yD hw, hml] at h; cases h⟩ | exact ⟨rfl, fun _ => Yn (by decide) (by decide)⟩ | exact ⟨rfl, hq4⟩), 0, rfl⟩
 ·intro hc0
  have hx1 : ¬ x = 1 := by have := of_decide_eq_false hc0; omega
  refine (g4)<|(Qc)<|(g3) ?_
  refine ze rfl ?_ ?_
  ·intro hc1
   obtain rfl : x = 2 := by have := of_decide_eq_true hc1; omega
   refine Qs ?_
   cases hml : mlS (stE es) w
   ·skip
    refine Qp<|(ga) ?_
    refine VX [_] rfl rfl (Un 211) ⟨⟨0, rfl⟩, trivial⟩ (z21 (G := []) r (stE es) w hw) rfl rfl rfl ?_
    refine (Ab hml)<|(Qm)<|(gm)<|(QF)<|(gh) ?_
    exact ⟨_, _, _, rfl, yt, (by first | exact ⟨by rw [vi]; rfl, fun h => hq1 (by rw [vi] at h; exact h)⟩ | exact ⟨by rw [yD hw, hml]; rfl, fun h => hq2 (by rw [yD hw, hml] at h; exact h)⟩ | exact ⟨by rw [yD hw, hml]; rfl, fun h => by rw [yD hw, hml] at h; cases h⟩ | exact ⟨rfl, fun _ => Yn (by decide) (by decide)⟩ | exact ⟨rfl, hq4⟩), 0, rfl⟩
   ·skip
    refine QR ⟨[], 5, [], none, none⟩<|(ga) ?_
    refine VX [_] rfl rfl (Un 211) ⟨⟨0, rfl⟩, trivial⟩ (z21 (G := []) r (stE es) w hw) rfl rfl rfl ?_
    refine (Ab hml)<|(gk)<|(gk) ?_
    refine vm 0 rfl rfl (Un 209) rfl (fun _ h => by cases h) (VZ (G := []) r es w 2 hw (.inr rfl)) ⟨_, _, rfl, fun _ => rfl⟩ rfl rfl fun v4_1 c4_1 hS4_1 => ?_
    obtain ⟨rfl, hq2⟩ := hS4_1
    refine (QT)<|(gh) ?_
    exact ⟨_, _, _, rfl, yt, (by first | exact ⟨by rw [vi]; rfl, fun h => hq1 (by rw [vi] at h; exact h)⟩ | exact ⟨by rw [yD hw, hml]; rfl, fun h => hq2 (by rw [yD hw, hml] at h; exact h)⟩ | exact ⟨by rw [yD hw, hml]; rfl, fun h => by rw [yD hw, hml] at h; cases h⟩ | exact ⟨rfl, fun _ => Yn (by decide) (by decide)⟩ | exact ⟨rfl, hq4⟩), 0, rfl⟩
  ·intro hc1
   have hx2 : ¬ x = 2 := by have := of_decide_eq_false hc1; omega
   refine (g4)<|(Qc)<|(g3) ?_
   refine ze rfl ?_ ?_
   ·intro hc2
    obtain rfl : x = 7 := by have := of_decide_eq_true hc2; omega
    refine (g5)<|(Qm) ?_
    refine yr rfl rfl ?_
    refine (Qf 6) ?_
    refine zlV (6 + 7) (Uu 214) (Uz 4) rfl rfl (by decide) (by omega) rfl ?_
    refine z2a (i := 0) (Uz 4) rfl rfl rfl rfl (by omega) (.inl rfl) ?_
    refine Qn<|(gw) ?_
    exact ⟨_, _, _, rfl, yt, (by first | exact ⟨by rw [vi]; rfl, fun h => hq1 (by rw [vi] at h; exact h)⟩ | exact ⟨by rw [yD hw, hml]; rfl, fun h => hq2 (by rw [yD hw, hml] at h; exact h)⟩ | exact ⟨by rw [yD hw, hml]; rfl, fun h => by rw [yD hw, hml] at h; cases h⟩ | exact ⟨rfl, fun _ => Yn (by decide) (by decide)⟩ | exact ⟨rfl, hq4⟩), 0, rfl⟩
   ·intro hc2
    have hx7 : ¬ x = 7 := by have := of_decide_eq_false hc2; omega
    refine Qk<|Qs<|QR ⟨[], 5, [], none, none⟩<|(ga) ?_
    refine vm 0 rfl rfl (Un 240) rfl (fun _ h => by cases h) (ziS (G := []) r es w x (by omega) (by omega)) ⟨_, _, rfl, fun _ => rfl⟩ rfl rfl fun v4_1 c4_1 hS4_1 => ?_
    obtain ⟨rfl, hq4⟩ := hS4_1
    refine (gh) ?_
    exact ⟨_, _, _, rfl, yt, (by first | exact ⟨by rw [vi]; rfl, fun h => hq1 (by rw [vi] at h; exact h)⟩ | exact ⟨by rw [yD hw, hml]; rfl, fun h => hq2 (by rw [yD hw, hml] at h; exact h)⟩ | exact ⟨by rw [yD hw, hml]; rfl, fun h => by rw [yD hw, hml] at h; cases h⟩ | exact ⟨rfl, fun _ => Yn (by decide) (by decide)⟩ | exact ⟨rfl, hq4⟩), 0, rfl⟩
theorem zij (r : Nat) (es : List Ev) (w : Nat) (hw : w < 2) (v : Value) (l : LN) (hv : Shows G 1 v l.length ((ci l).map iv)) (ht : ∀ x ∈ l, 1 ≤ x ∧ x ≤ 7) (hz : l.length ≤ 1000) : Fq G [(⟨r, kst (stE es), 216⟩ : Blk)] 162 #[ptr r, ii w, v] (fun u l1 nw => nw = [] ∧ ∃ c', l1 = [⟨r, c', 216⟩] ∧ (u = Value.bool (z4o es w l) ∧ ((z4o es w l) = true → c' = kst (stE (es ++ yv w (l ++ [0])))))) := by
 refine zdp (n := 24) Tryz.func162 rfl rfl (by simp) (xM [ptr r, ii w, v] 0) (yi _) ?_
 refine (gb)<|(gc)<|(QC hv)<|(Qm)<|Qn<|Qb ?_
 refine QzK [(0, _), (1, _), (9, _), (10, _)] [] (fun kk E m => ∃ (j : Nat), kk = l.length - j ∧ E = [(11, ii j)] ∧ m = [(0, some ⟨r, kst (stE (es ++ (yv w l).take j)), 216⟩)] ∧ (j ≤ l.length) ∧ (∀ t, t < j → okT (es ++ (yv w l).take t) w (l.getD t 0) = true)) ⟨0, rfl, rfl, rfl, by omega, fun t ht => absurd ht (Nat.not_lt_zero t)⟩ ⟨rfl, rfl, rfl, rfl, rfl, trivial⟩ ⟨(by rw [z3k] <;> rfl), trivial⟩ ?_
 rintro kk E m ⟨j, rfl, rfl, rfl, hf0_0, hf0_1⟩
 simp only [zB, zA]
 refine (gt) ?_
 refine (Qcd) (fun hc0=>?_) fun hc0=>?_
 ·have hc0 : j < l.length := by omega
  refine Qk<|Qs<|Qb<|(g4) ?_
  refine xf hv (Uu 25) (Uz 3) rfl rfl (by omega) rfl ?_
  refine (QS) ?_
  refine yc hv zo (Uu 3) rfl rfl (z0x (by omega)) rfl ?_
  refine z0d fun x hx => ?_
  refine (g3) ?_
  have hx9 := ht (l.getD j 0) (by rw [List.getD_eq_getElem?_getD, List.getElem?_eq_getElem (by omega)]; exact List.getElem_mem _)
  rw [← hx] at hx9
  refine Qs<|QR ⟨[], 5, [], none, none⟩<|(ga)<|(Qm) ?_
  refine vm 0 rfl rfl (Un 210) rfl (fun _ h => by cases h) (zln (G := []) r (es ++ (yv w l).take j) w x hw hx9.1 hx9.2) ⟨_, _, rfl, fun _ => rfl⟩ rfl rfl fun v2_1 c2_1 hS2_1 => ?_
  obtain ⟨rfl, hq1⟩ := hS2_1
  refine (Q0)<|Qn ?_
  refine ze rfl ?_ ?_
  ·intro hc1
   have hrow : z4o es w l = false := zhc (show j < l.length by omega) (by rw [← hx]; simpa using hc1)
   refine (gw) ?_
   exact ⟨_, _, _, rfl, yt, (by first | exact ⟨by rw [hrow], fun h => by rw [hrow] at h; cases h⟩ | (rw [hz0, Z8, z59 (fun t h => hf0_1 t (by omega)), z5a hw]; exact ⟨rfl, fun _ => z6I⟩)), 0, rfl⟩
  ·intro hc1
   have hok0 : okT (es ++ (yv w l).take j) w x = true := by simpa using hc1
   have hok : okT (es ++ (yv w l).take j) w (l.getD j 0) = true := by rw [← hx]; exact hok0
   obtain rfl := hq1 hok0
   refine Qk<|(go) ?_
   refine QzL ⟨j + 1, rfl, rfl, rfl, by omega, fun t ht => by rcases (by omega : t < j ∨ t = j) with h | rfl; exact hf0_1 t h; exact hok⟩ ⟨rfl, rfl, rfl, rfl, rfl, trivial⟩ ⟨(by rw [WO (by omega), ← hx] <;> rfl), trivial⟩ ?_
   omega
 ·have hz0 : j = l.length := by omega
  refine Qe<|(g5)<|(Qm) ?_
  refine VX [_] rfl rfl (Un 211) ⟨⟨0, rfl⟩, trivial⟩ (z21 (G := []) r _ w hw) rfl rfl rfl ?_
  refine (gh) ?_
  exact ⟨_, _, _, rfl, yt, (by first | exact ⟨by rw [hrow], fun h => by rw [hrow] at h; cases h⟩ | (rw [hz0, Z8, z59 (fun t h => hf0_1 t (by omega)), z5a hw]; exact ⟨rfl, fun _ => z6I⟩)), 0, rfl⟩
theorem zaD (base : LN) (late : Bool) (vp v0 v1 vt : Value) (tvs : List Value) (q0 q1 : LN) (us : List (LN)) (hvt : Shows G 1 vt tvs.length tvs) (hLI : zF G (v0 :: v1 :: tvs) (ci q0 :: ci q1 :: us.map ci)) (htk : ∀ q ∈ q0 :: q1 :: us, q.length ≤ 6 ∧ ∀ x ∈ q, 1 ≤ x ∧ x ≤ 7) (hn5 : us.length ≤ 5) : Fp G 113 #[.agg (zr 6 [pV (sv base), pV (.bool late), pV vp, pV v0, pV v1, pV vt])] (.bool (decide (z3M (evL late q0 q1 us) = 0))) := by
 have hT := zL (zL hLI)
 have hv0 := zac hLI
 have hv1 := zac (zL hLI)
 have hvq := z34 hv0 hv1
 have htl : tvs.length = us.length := by have := hT.1; rwa [List.length_map] at this
 obtain ⟨L, hL⟩ : ∃ L, L = evL late q0 q1 us := ⟨_, rfl⟩
 have hLl : L.length = 2 + us.length := by rw [hL]; exact zhN
 have hLa : ∀ a, a < 2 → L.getD a [] = yv a (qq q0 q1 a) := fun a ha => by rw [hL]; exact ziF ha
 have hLt : ∀ i, i < us.length → L.getD (2 + i) [] = yv (Xw late i) (us.getD i [] ++ [0]) := fun i hi => by rw [hL]; exact zee hi
 rw [← hL]
 have hqt : ∀ a, (qq q0 q1 a).length ≤ 6 ∧ ∀ x ∈ qq q0 q1 a, 1 ≤ x ∧ x ≤ 7 := fun a => by unfold qq; split; exact htk q0 (by simp); exact htk q1 (by simp)
 have hut : ∀ i, i < us.length → (us.getD i []).length ≤ 6 ∧ ∀ x ∈ us.getD i [], 1 ≤ x ∧ x ≤ 7 := fun i hi => htk _ (by rw [List.getD_eq_getElem?_getD, List.getElem?_eq_getElem hi]; simp)
 refine Qf1 Tryz.func113 ?_
 refine (g4)<|(Qh 0) fun r1=>(g3)<|(g4)<|(QH 1) fun r2=>Qn<|(gu)<|(Qf 3) ?_
 refine z5j (i := 0) (Uu 26) rfl (Uz 26) rfl rfl (by decide) rfl ⟨[], trivial⟩ ?_
 refine zi (show _ = Value.agg (zO 2 (fun t => vq v0 v1 t)) from congrArg Value.agg (yq fun j hj => by have h9 : j = 0 ∨ j = 1 := (by omega); rcases h9 with rfl | rfl <;> rfl)) ?_
 refine (Qm)<|Qn<|Qb ?_
 refine QzK [(1, _), (3, _), (10, _)] [(0, _)] (fun kk E m => ∃ (a : Nat), kk = 2 - a ∧ E = [(11, ii a)] ∧ m = [(1, some ⟨r2, kst (stE (xm L a 0)), 216⟩)] ∧ (a ≤ 2) ∧ (∀ s t, s < a → t < (L.getD s []).length → V7 L s t = true)) ⟨0, rfl, rfl, rfl, by omega, fun _ _ h => absurd h (Nat.not_lt_zero _)⟩ ⟨rfl, rfl, rfl, rfl, trivial⟩ ⟨(by rw [z89, show (kst (stE []) : Array Value) = _ from yq fun j _ => by rw [zip]] <;> rfl), rfl, trivial⟩ ?_
 rintro kk E m ⟨a, rfl, rfl, rfl, hf0_0, hf0_1⟩
 simp only [zB, zA]
 refine (gt) ?_
 refine (Qcd) (fun hc0=>?_) fun hc0=>?_
 ·have hc0 : a < 2 := by omega
  refine Qk<|Qs<|Qb<|(g5) ?_
  refine z3U (Uu 26) (Uu 25) rfl (Uz 25) rfl rfl (by omega) rfl ?_
  refine (g7)<|Qs<|QR ⟨[], 5, [], none, none⟩<|(ga) ?_
  refine vm 1 rfl rfl (Un 161) rfl (fun z hz => .inl hz) (zgW (G := G) r2 (xm L a 0) a (by omega) (vq v0 v1 a) (qq q0 q1 a) (hvq a (by omega)) (hqt a).2 (by have := (hqt a).1; omega)) ⟨_, _, rfl, fun _ => rfl⟩ rfl rfl fun v2_1 c2_1 hS2_1 => ?_
  obtain ⟨rfl, hq1⟩ := hS2_1
  refine (Q0)<|Qn ?_
  refine ze rfl ?_ ?_
  ·intro hc1
   have hbad : z50 (xm L a 0) a (qq q0 q1 a) = false := by simpa using hc1
   rw [ziQ (by omega) (by omega) (hLa a (by omega)) hbad]
   refine (gw) ?_
   first | rw [z3O (fun s t hs ht => by by_cases h2 : s < 2; exact hf0_1 s t (by omega) ht; (obtain ⟨s, rfl⟩ : ∃ r, s = 2 + r := ⟨s - 2, by omega⟩); exact hf1_1 s t (by omega) ht)] | skip
   exact ⟨_, rfl, yt⟩
  ·intro hc1
   have hok : z50 (xm L a 0) a (qq q0 q1 a) = true := by simpa using hc1
   obtain rfl := hq1 hok
   refine Qk<|(go) ?_
   refine QzL ⟨a + 1, rfl, rfl, rfl, by omega, fun s t hs ht => by by_cases e : s = a; (subst e; exact zm7 (by omega) (hLa s (by omega)) hok t ht); exact hf0_1 s t (by omega) ht⟩ ⟨rfl, rfl, rfl, rfl, trivial⟩ ⟨(by rw [← z4Q (by omega), hLa a (by omega)] <;> rfl), rfl, trivial⟩ ?_
   omega
 ·have hz0 : a = 2 := by omega
  refine Qe<|(gb)<|(gu)<|(Qf 1)<|(QV 1 0)<|Qn ?_
  refine z1k [(1, _), (3, _), (10, _), (11, _), (12, _), (20, _), (21, _)] [(6, ii (Xw late 0))] [(0, some _), (1, some ⟨r2, kst (stE (xm L a 0)), 216⟩)] ⟨rfl, rfl, rfl, rfl, rfl, rfl, rfl, trivial⟩ ⟨rfl, rfl, trivial⟩ ?_ ?_
  ·skip
   refine ze rfl ?_ ?_
   ·intro hc2
    have hcL := hc2
    refine Qp<|(g3) ?_
    exact ⟨⟨rfl, rfl, rfl, rfl, rfl, rfl, rfl, trivial⟩, ⟨(by rw [Xw, hcL] <;> rfl), trivial⟩, ⟨rfl, rfl, trivial⟩⟩
   ·intro hc2
    have hcL := hc2
    refine Qk ?_
    exact ⟨⟨rfl, rfl, rfl, rfl, rfl, rfl, rfl, trivial⟩, ⟨(by rw [Xw, hcL] <;> rfl), trivial⟩, ⟨rfl, rfl, trivial⟩⟩
  ·simp only [zB]
   refine (gu)<|(Qf 5)<|(QV 5 0)<|(QC hvt)<|(Qm)<|Qn<|Qb ?_
   refine QzK [(1, _), (3, _), (10, _), (11, _), (23, _), (24, _)] [(0, _)] (fun kk E m => ∃ (i : Nat), kk = tvs.length - i ∧ E = [(6, ii (Xw late i)), (25, ii i)] ∧ m = [(1, some ⟨r2, kst (stE (xm L (2 + i) 0)), 216⟩)] ∧ (i ≤ tvs.length) ∧ (∀ s t, s < i → t < (L.getD (2 + s) []).length → V7 L (2 + s) t = true)) ⟨0, rfl, rfl, rfl, by omega, fun _ _ h => absurd h (Nat.not_lt_zero _)⟩ ⟨rfl, rfl, rfl, rfl, rfl, rfl, rfl, rfl, trivial⟩ ⟨(by rw [hz0] <;> rfl), rfl, trivial⟩ ?_
   rintro kk E m ⟨i, rfl, rfl, rfl, hf1_0, hf1_1⟩
   simp only [zB, zA]
   have hwl := zjc late i
   refine (gt) ?_
   refine (Qcd) (fun hc3=>?_) fun hc3=>?_
   ·have hc3 : i < tvs.length := by omega
    refine Qk<|Qs<|Qb<|(g4) ?_
    refine xf hvt (Uu 27) (Uz 25) rfl rfl (by omega) rfl ?_
    refine (QS) ?_
    refine yc hvt zo (Uu 25) rfl rfl (xU (by omega)) rfl ?_
    refine (g3)<|Qs<|Qs<|QR ⟨[], 5, [], none, none⟩<|(ga) ?_
    refine vm 1 rfl rfl (Un 162) rfl (fun z hz => .inl hz) (zij (G := G) r2 (xm L (2 + i) 0) (Xw late i) hwl (tvs.getD i undef) (us.getD i []) (zo4 hT (by omega)) (hut i (by omega)).2 (by have := (hut i (by omega)).1; omega)) ⟨_, _, rfl, fun _ => rfl⟩ rfl rfl fun v4_1 c4_1 hS4_1 => ?_
    obtain ⟨rfl, hq2⟩ := hS4_1
    refine (Q0)<|Qn ?_
    refine ze rfl ?_ ?_
    ·intro hc4
     have hbad : z4o (xm L (2 + i) 0) (Xw late i) (us.getD i []) = false := by simpa using hc4
     rw [ze2 (by omega) (hLt i (by omega)) hbad]
     refine (gw) ?_
     first | rw [z3O (fun s t hs ht => by by_cases h2 : s < 2; exact hf0_1 s t (by omega) ht; (obtain ⟨s, rfl⟩ : ∃ r, s = 2 + r := ⟨s - 2, by omega⟩); exact hf1_1 s t (by omega) ht)] | skip
     exact ⟨_, rfl, yt⟩
    ·intro hc4
     have hok : z4o (xm L (2 + i) 0) (Xw late i) (us.getD i []) = true := by simpa using hc4
     obtain rfl := hq2 hok
     refine Qk<|Qp<|(Qm) ?_
     refine yy (p := 1) rfl rfl rfl (by omega) (by omega) ?_
     refine (g3)<|(go) ?_
     refine QzL ⟨i + 1, rfl, rfl, rfl, by omega, fun s t hs ht => by by_cases e : s = i; (subst e; exact zjb (hLt s (by omega)) hok t ht); exact hf1_1 s t (by omega) ht⟩ ⟨(by rw [← zch] <;> rfl), rfl, rfl, rfl, rfl, rfl, rfl, rfl, trivial⟩ ⟨(by rw [show 2 + (i + 1) = 2 + i + 1 by omega, ← z4Q (by omega), hLt i (by omega)] <;> rfl), rfl, trivial⟩ ?_
     omega
   ·have hz1 : i = tvs.length := by omega
    refine Qe<|(gw) ?_
    first | rw [z3O (fun s t hs ht => by by_cases h2 : s < 2; exact hf0_1 s t (by omega) ht; (obtain ⟨s, rfl⟩ : ∃ r, s = 2 + r := ⟨s - 2, by omega⟩); exact hf1_1 s t (by omega) ht)] | skip
    exact ⟨_, rfl, yt⟩
theorem zd1 (base : LN) (late : Bool) (vp v0 v1 vt : Value) (tvs : List Value) (p0 p1 : List Int) (ts : List (List Int)) (hvt : Shows G 1 vt tvs.length tvs) (hLI : zF G (v0 :: v1 :: tvs) (p0 :: p1 :: ts)) (h : ts.length = 0 ∨ 5 < ts.length) : Fp G 66 #[.agg (zr 6 [pV (sv base), pV (.bool late), pV vp, pV v0, pV v1, pV vt])] (ii 1) := by
 have hT := zL (zL hLI)
 have htl : tvs.length = ts.length := hT.1
 refine Qf1 Tryz.func66 ?_
 refine (g4)<|(Qh 0) fun r1=>(g3)<|(gu) ?_
 refine zW [(0, _), (1, _), (2, _)] [(14, .bool (decide ((tvs.length : Int) < 1) || decide ((5 : Int) < (tvs.length : Int))))] [(0, some _)] ⟨rfl, rfl, rfl, trivial⟩ ⟨rfl, trivial⟩ ?_ ?_
 ·skip
  refine (Qf 5)<|(QV 5 0)<|(QC hvt)<|(Ql)<|(Qm) ?_
  refine zM (fun hb0 => ?_) (fun hb0 => ?_)
  ·skip
   refine (gm)<|(QT)<|Qn ?_
   exact ⟨⟨rfl, rfl, rfl, trivial⟩, ⟨zf (by rw [hb0] <;> rfl), trivial⟩, ⟨rfl, trivial⟩⟩
  ·skip
   refine (Qy)<|(Qf 5)<|(Qy)<|(QV 5 0)<|(Qy)<|(QC hvt)<|(Qy)<|(QG)<|(QF)<|Qn ?_
   exact ⟨⟨rfl, rfl, rfl, trivial⟩, ⟨zf (by rw [hb0] <;> rfl), trivial⟩, ⟨rfl, trivial⟩⟩
 ·simp only [zB]
  refine ze rfl ?_ ?_
  ·intro hc0
   refine (gw) ?_
   exact ⟨_, rfl, yt⟩
  ·intro hc0
   exact absurd hc0 (by rcases h with h | h; (rw [decide_eq_true (by omega)]; simp); (rw [decide_eq_true (p := (5 : Int) < _) (by omega)]; simp))
theorem zio (base : LN) (late : Bool) (vp v0 v1 vt : Value) (tvs : List Value) (p0 p1 : List Int) (ts : List (List Int)) (hvt : Shows G 1 vt tvs.length tvs) (hLI : zF G (v0 :: v1 :: tvs) (p0 :: p1 :: ts)) (h1 : 1 ≤ ts.length) (h5 : ts.length ≤ 5) (f : Nat) (hf : yk [p0, p1] = f) (hf0 : f ≠ 0) : Fp G 66 #[.agg (zr 6 [pV (sv base), pV (.bool late), pV vp, pV v0, pV v1, pV vt])] (ii f) := by
 have hT := zL (zL hLI)
 have htl : tvs.length = ts.length := hT.1
 refine Qf1 Tryz.func66 ?_
 refine (g4)<|(Qh 0) fun r1=>(g3)<|(gu) ?_
 refine zW [(0, _), (1, _), (2, _)] [(14, .bool (decide ((tvs.length : Int) < 1) || decide ((5 : Int) < (tvs.length : Int))))] [(0, some _)] ⟨rfl, rfl, rfl, trivial⟩ ⟨rfl, trivial⟩ ?_ ?_
 ·skip
  refine (Qf 5)<|(QV 5 0)<|(QC hvt)<|(Ql)<|(Qm) ?_
  refine zM (fun hb0 => ?_) (fun hb0 => ?_)
  ·skip
   refine (gm)<|(QT)<|Qn ?_
   exact ⟨⟨rfl, rfl, rfl, trivial⟩, ⟨zf (by rw [hb0] <;> rfl), trivial⟩, ⟨rfl, trivial⟩⟩
  ·skip
   refine (Qy)<|(Qf 5)<|(Qy)<|(QV 5 0)<|(Qy)<|(QC hvt)<|(Qy)<|(QG)<|(QF)<|Qn ?_
   exact ⟨⟨rfl, rfl, rfl, trivial⟩, ⟨zf (by rw [hb0] <;> rfl), trivial⟩, ⟨rfl, trivial⟩⟩
 ·simp only [zB]
  refine ze rfl ?_ ?_
  ·intro hc0
   exact absurd hc0 (by rw [decide_eq_false (by omega), decide_eq_false (by omega)]; decide)
  ·intro hc0
   refine Qk<|(gu)<|(Qf 3)<|(Qsa 0 2) ?_
   refine zD rfl rfl (Un 112) (zh (zY 0 rfl ⟨[], trivial⟩) zo) (WG (G := [(⟨r1, (zr 6 [pV (sv base), pV (.bool late), pV vp, pV v0, pV v1, pV vt]), 29⟩ : Blk)] ++ G) _ [v0, v1] [p0, p1] ((W2 (r := r1) (t := 29)).mono (fun x hx => List.mem_append_left _ hx)) (yR (z1a hLI) (fun x hx => List.mem_append_right _ hx)) (by simp)) rfl rfl ?_
   refine (Ai hf)<|(gj)<|(QN)<|(Qat)<|Qn<|(Qct)<|(g5)<|(gh) ?_
   exact ⟨_, rfl, yt⟩
theorem zbc (base : LN) (late : Bool) (vp v0 v1 vt : Value) (tvs : List Value) (p0 p1 : List Int) (ts : List (List Int)) (hvt : Shows G 1 vt tvs.length tvs) (hLI : zF G (v0 :: v1 :: tvs) (p0 :: p1 :: ts)) (h1 : 1 ≤ ts.length) (h5 : ts.length ≤ 5) (hp : yk [p0, p1] = 0) (f : Nat) (hf : yk ts = f) (hf0 : f ≠ 0) : Fp G 66 #[.agg (zr 6 [pV (sv base), pV (.bool late), pV vp, pV v0, pV v1, pV vt])] (ii f) := by
 have hT := zL (zL hLI)
 have htl : tvs.length = ts.length := hT.1
 refine Qf1 Tryz.func66 ?_
 refine (g4)<|(Qh 0) fun r1=>(g3)<|(gu) ?_
 refine zW [(0, _), (1, _), (2, _)] [(14, .bool (decide ((tvs.length : Int) < 1) || decide ((5 : Int) < (tvs.length : Int))))] [(0, some _)] ⟨rfl, rfl, rfl, trivial⟩ ⟨rfl, trivial⟩ ?_ ?_
 ·skip
  refine (Qf 5)<|(QV 5 0)<|(QC hvt)<|(Ql)<|(Qm) ?_
  refine zM (fun hb0 => ?_) (fun hb0 => ?_)
  ·skip
   refine (gm)<|(QT)<|Qn ?_
   exact ⟨⟨rfl, rfl, rfl, trivial⟩, ⟨zf (by rw [hb0] <;> rfl), trivial⟩, ⟨rfl, trivial⟩⟩
  ·skip
   refine (Qy)<|(Qf 5)<|(Qy)<|(QV 5 0)<|(Qy)<|(QC hvt)<|(Qy)<|(QG)<|(QF)<|Qn ?_
   exact ⟨⟨rfl, rfl, rfl, trivial⟩, ⟨zf (by rw [hb0] <;> rfl), trivial⟩, ⟨rfl, trivial⟩⟩
 ·simp only [zB]
  refine ze rfl ?_ ?_
  ·intro hc0
   exact absurd hc0 (by rw [decide_eq_false (by omega), decide_eq_false (by omega)]; decide)
  ·intro hc0
   refine Qk<|(gu)<|(Qf 3)<|(Qsa 0 2) ?_
   refine zD rfl rfl (Un 112) (zh (zY 0 rfl ⟨[], trivial⟩) zo) (WG (G := [(⟨r1, (zr 6 [pV (sv base), pV (.bool late), pV vp, pV v0, pV v1, pV vt]), 29⟩ : Blk)] ++ G) _ [v0, v1] [p0, p1] ((W2 (r := r1) (t := 29)).mono (fun x hx => List.mem_append_left _ hx)) (yR (z1a hLI) (fun x hx => List.mem_append_right _ hx)) (by simp)) rfl rfl ?_
   refine (Ai hp)<|(gj)<|(QN) ?_
   refine (Ab (decide_eq_false (by decide)))<|(gp)<|(gu)<|(Qf 5)<|(QV 5 0) ?_
   refine (Ca (WG vt tvs ts hvt hT (by omega))) ?_
   refine (Ai hf)<|(gj)<|(QN)<|(Qat)<|Qn<|(Qct)<|(g5)<|(gh) ?_
   exact ⟨_, rfl, yt⟩
theorem zcZ (base : LN) (late : Bool) (vp v0 v1 vt : Value) (tvs : List Value) (p0 p1 : List Int) (ts : List (List Int)) (hvt : Shows G 1 vt tvs.length tvs) (hLI : zF G (v0 :: v1 :: tvs) (p0 :: p1 :: ts)) (h1 : 1 ≤ ts.length) (h5 : ts.length ≤ 5) (hp : yk [p0, p1] = 0) (hf : yk ts = 0) (f : Nat) (hf3 : f = 0 ∨ f = 3) (hF : Fp G 113 #[.agg (zr 6 [pV (sv base), pV (.bool late), pV vp, pV v0, pV v1, pV vt])] (.bool (decide (f = 0)))) : Fp G 66 #[.agg (zr 6 [pV (sv base), pV (.bool late), pV vp, pV v0, pV v1, pV vt])] (ii f) := by
 have hT := zL (zL hLI)
 have htl : tvs.length = ts.length := hT.1
 refine Qf1 Tryz.func66 ?_
 refine (g4)<|(Qh 0) fun r1=>(g3)<|(gu) ?_
 refine zW [(0, _), (1, _), (2, _)] [(14, .bool (decide ((tvs.length : Int) < 1) || decide ((5 : Int) < (tvs.length : Int))))] [(0, some _)] ⟨rfl, rfl, rfl, trivial⟩ ⟨rfl, trivial⟩ ?_ ?_
 ·skip
  refine (Qf 5)<|(QV 5 0)<|(QC hvt)<|(Ql)<|(Qm) ?_
  refine zM (fun hb0 => ?_) (fun hb0 => ?_)
  ·skip
   refine (gm)<|(QT)<|Qn ?_
   exact ⟨⟨rfl, rfl, rfl, trivial⟩, ⟨zf (by rw [hb0] <;> rfl), trivial⟩, ⟨rfl, trivial⟩⟩
  ·skip
   refine (Qy)<|(Qf 5)<|(Qy)<|(QV 5 0)<|(Qy)<|(QC hvt)<|(Qy)<|(QG)<|(QF)<|Qn ?_
   exact ⟨⟨rfl, rfl, rfl, trivial⟩, ⟨zf (by rw [hb0] <;> rfl), trivial⟩, ⟨rfl, trivial⟩⟩
 ·simp only [zB]
  refine ze rfl ?_ ?_
  ·intro hc0
   exact absurd hc0 (by rw [decide_eq_false (by omega), decide_eq_false (by omega)]; decide)
  ·intro hc0
   refine Qk<|(gu)<|(Qf 3)<|(Qsa 0 2) ?_
   refine zD rfl rfl (Un 112) (zh (zY 0 rfl ⟨[], trivial⟩) zo) (WG (G := [(⟨r1, (zr 6 [pV (sv base), pV (.bool late), pV vp, pV v0, pV v1, pV vt]), 29⟩ : Blk)] ++ G) _ [v0, v1] [p0, p1] ((W2 (r := r1) (t := 29)).mono (fun x hx => List.mem_append_left _ hx)) (yR (z1a hLI) (fun x hx => List.mem_append_right _ hx)) (by simp)) rfl rfl ?_
   refine (Ai hp)<|(gj)<|(QN) ?_
   refine (Ab (decide_eq_false (by decide)))<|(gp)<|(gu)<|(Qf 5)<|(QV 5 0) ?_
   refine (Ca (WG vt tvs ts hvt hT (by omega))) ?_
   refine (Ai hf)<|(gj)<|(QN) ?_
   refine (Ab (decide_eq_false (by decide)))<|(gp)<|Qs<|(gf) ?_
   refine (Ca hF)<|(Q0)<|Qn ?_
   refine ze rfl ?_ ?_
   ·intro hc3
    obtain rfl : f = 3 := by have : ¬ f = 0 := (by simpa using hc3); omega
    refine (gw) ?_
    exact ⟨_, rfl, yt⟩
   ·intro hc3
    obtain rfl : f = 0 := by simpa using hc3
    refine Qk<|(gw) ?_
    exact ⟨_, rfl, yt⟩
theorem zj9 {G : Mem} (base : LN) (late : Bool) (vp v0 v1 vt : Value) (tvs : List Value) (p0 p1 : List Int) (ts : List (List Int)) (hvt : Shows G 1 vt tvs.length tvs) (hLI : zF G (v0 :: v1 :: tvs) (p0 :: p1 :: ts)) : Fp G 66 #[.agg (zr 6 [pV (sv base), pV (.bool late), pV vp, pV v0, pV v1, pV vt])] (ii (wA late p0 p1 ts)) := by
 by_cases h0 : ts.length = 0 ∨ 5 < ts.length
 ·rw [wA, if_pos h0]; exact zd1 base late vp v0 v1 vt tvs p0 p1 ts hvt hLI h0
 by_cases hp : yk [p0, p1] = 0
 ·by_cases hf : yk ts = 0
  ·have h00 : yk (p0 :: p1 :: ts) = 0 := by rw [Y2, if_pos hp, hf]
   have hz := YU h00
   have e0 := z1Q (hz p0 (by simp)).2
   have e1 := z1Q (hz p1 (by simp)).2
   have et : ts = (ts.map fun t => t.map Int.toNat).map ci := by
    rw [List.map_map]
    conv => lhs; rw [← List.map_id ts]
    exact List.map_congr_left fun t ht => z1Q (hz t (by simp [ht])).2
   rw [wA, if_neg h0, if_pos h00]
   refine zcZ base late vp v0 v1 vt tvs p0 p1 ts hvt hLI (by omega) (by omega) hp hf _ (by unfold z3M; split <;> simp) ?_
   have hall : yk ((p0.map Int.toNat :: p1.map Int.toNat :: (ts.map fun t => t.map Int.toNat)).map ci) = 0 := by
    rw [List.map_cons, List.map_cons, ← e0, ← e1, ← et]; exact h00
   exact zaD base late vp v0 v1 vt tvs (p0.map Int.toNat) (p1.map Int.toNat) (ts.map fun t => t.map Int.toNat) hvt (by rw [← e0, ← e1, ← et]; exact hLI) (z61 hall) (by rw [List.length_map]; omega)
  ·rw [wA, if_neg h0, Y2, if_pos hp, if_neg hf]
   exact zbc base late vp v0 v1 vt tvs p0 p1 ts hvt hLI (by omega) (by omega) hp _ rfl hf
 ·rw [wA, if_neg h0, Y2, if_neg hp, if_neg hp]
  exact zio base late vp v0 v1 vt tvs p0 p1 ts hvt hLI (by omega) (by omega) _ rfl hp
theorem z1H (b : LN) (l : Bool) (vp v0 v1 vt : Value) (fi : Bool) (tn : Int) (dd : Bool) (y : SY) (r : RS) (ow : NN) (vk : Value) (us : Int) (f0 : Bool) (p0 p1 : List Int) (tvs : List Value) (ts : List (List Int)) (hvt : Shows G 1 vt tvs.length tvs) (hLI : zF G (v0 :: v1 :: tvs) (p0 :: p1 :: ts)) : Fp G 37 #[.agg (shC b l vp v0 v1 vt fi tn dd y ow r vk us), .bool f0] (.bool (z7B dd tn tvs.length us f0 l (wA l p0 p1 ts))) := by
 refine Qf1 Tryz.func37 ?_
 refine (g4)<|(Qh 0) fun r1=>(g3)<|(gu) ?_
 refine zW [(0, _), (1, _), (2, _), (4, _)] [(26, .bool (dd || (decide (us < 0) || (decide (tn < 0) || decide ((tvs.length : Int) ≤ tn)))))] [(0, some _)] ⟨rfl, rfl, rfl, rfl, trivial⟩ ⟨rfl, trivial⟩ ?_ ?_
 ·skip
  refine (Qf 8)<|(QV 8 0)<|(Qm) ?_
  refine zM (b := dd) (fun hb0 => ?_) (fun hb0 => ?_)
  ·skip
   refine (gz)<|(QT)<|(Qm)<|(gz)<|(QT)<|(Qm)<|(gm)<|(gz)<|(QT)<|Qn ?_
   exact ⟨⟨rfl, rfl, rfl, rfl, trivial⟩, ⟨zf (by rw [hb0] <;> rfl), trivial⟩, ⟨rfl, trivial⟩⟩
  ·skip
   refine (Qy)<|(Qf 239)<|(Qy)<|(QV 22 0)<|(Qy)<|(Ql)<|(QF)<|(Qm) ?_
   refine zM (b := decide (us < 0)) (fun hb1 => ?_) (fun hb1 => ?_)
   ·skip
    refine (gz)<|(QT)<|(Qm)<|(gm)<|(gz)<|(QT)<|Qn ?_
    exact ⟨⟨rfl, rfl, rfl, rfl, trivial⟩, ⟨zf (by rw [hb0, hb1] <;> rfl), trivial⟩, ⟨rfl, trivial⟩⟩
   ·skip
    refine (Qy)<|(Qf 7)<|(Qy)<|(QV 7 0)<|(Qy)<|(Ql)<|(QF)<|(Qm) ?_
    refine zM (b := decide (tn < 0)) (fun hb2 => ?_) (fun hb2 => ?_)
    ·skip
     refine (gm)<|(gz)<|(QT)<|Qn ?_
     exact ⟨⟨rfl, rfl, rfl, rfl, trivial⟩, ⟨zf (by rw [hb0, hb1, hb2] <;> rfl), trivial⟩, ⟨rfl, trivial⟩⟩
    ·skip
     refine (Qy)<|(Qf 7)<|(Qy)<|(QV 7 0)<|(Qy)<|(Qf 0)<|(Qy)<|(Qf 5)<|(Qy)<|(QV 5 0)<|(Qy)<|(QC hvt)<|(Qy)<|(QE)<|(QF)<|Qn ?_
     exact ⟨⟨rfl, rfl, rfl, rfl, trivial⟩, ⟨zf (by rw [hb0, hb1, hb2] <;> rfl), trivial⟩, ⟨rfl, trivial⟩⟩
 ·simp only [zB]
  refine ze rfl ?_ ?_
  ·intro hc0
   rw [show z7B dd tn tvs.length us f0 l (wA l p0 p1 ts) = false from if_pos (zo0 hc0)]
   refine (gw) ?_
   exact ⟨_, rfl, yt⟩
  ·intro hc0
   have hg := znp hc0
   obtain ⟨tq, rfl⟩ : ∃ tq : Nat, tn = (tq : Int) := ⟨tn.toNat, by omega⟩
   rw [show z7B dd (tq : Int) tvs.length us f0 l (wA l p0 p1 ts) = _ from if_neg hg]
   rw [Int.toNat_natCast]
   refine Qk<|(g4)<|(Qf 7)<|(QV 7 0)<|(Q4 2)<|(Qc)<|(g3)<|(g4) ?_
   refine zW [(0, _), (1, _), (2, _), (5, _), (26, _), (27, _), (28, _), (29, _), (30, _)] [(4, .bool ((f0 == (decide (((tq % 2 : Nat) : Int) = 0) != l)) && decide (((wA l p0 p1 ts : Nat) : Int) = 0))), (43, .bool ((f0 == (decide (((tq % 2 : Nat) : Int) = 0) != l)) && decide (((wA l p0 p1 ts : Nat) : Int) = 0)))] [(0, some _)] ⟨rfl, rfl, rfl, rfl, rfl, rfl, rfl, rfl, rfl, trivial⟩ ⟨rfl, trivial⟩ ?_ ?_
   ·skip
    refine (ga)<|(Qf 0)<|(Qf 1)<|(QV 1 0) ?_
    refine zmU (Uu 4) rfl rfl rfl ?_
    refine zhh (Uu 4) rfl rfl rfl ?_
    refine (Qm) ?_
    refine zM (b := (f0 == (decide (((tq % 2 : Nat) : Int) = 0) != l))) (fun hb3 => ?_) (fun hb3 => ?_)
    ·skip
     refine (Qy)<|(Qf 0)<|(Qy)<|(QlK 0 0 6)<|(Qy) ?_
     refine (Ca (zj9 b l vp v0 v1 vt tvs p0 p1 ts hvt hLI))<|(Qy)<|(Qc)<|(QT)<|(g3) ?_
     exact ⟨⟨rfl, rfl, rfl, rfl, rfl, rfl, rfl, rfl, rfl, trivial⟩, ⟨zf (by rw [hb3] <;> rfl), zf (by rw [hb3] <;> rfl), trivial⟩, ⟨rfl, trivial⟩⟩
    ·skip
     refine (gm)<|(QF)<|(g3) ?_
     exact ⟨⟨rfl, rfl, rfl, rfl, rfl, rfl, rfl, rfl, rfl, trivial⟩, ⟨zf (by rw [hb3] <;> rfl), zf (by rw [hb3] <;> rfl), trivial⟩, ⟨rfl, trivial⟩⟩
   ·simp only [zB]
    refine Qr ?_
    exact ⟨_, rfl, yt⟩
theorem z91 (b : LN) (l : Bool) (vp v0 v1 vt : Value) (fi : Bool) (tq : Nat) (dd : Bool) (y : SY) (r : RS) (ow : NN) (vk : Value) (us : Int) (y2 : SY) (r2v : RS) (u2 : Int) (vb : Value) (e : Nat) (h1 : xn vp v0 v1 vt vk) (he : e = 0) (htz : tq < 1000000) : Fp G 39 #[.agg (shC b l vp v0 v1 vt fi ((tq : Nat) : Int) dd y ow r vk us), .agg (shC b l vp v0 v1 vt fi ((tq : Nat) : Int) dd y2 ow r2v vk u2), vb, ii e] (.tuple #[.agg (shC b l vp v0 v1 vt fi ((tq + 1 : Nat) : Int) dd y2 ow r2v vk u2), vb, ii 0]) := by
 refine Qf3 Tryz.func39 ?_
 refine (g4)<|(Qh 0) fun r1=>(Qh 1) fun r2=>(QH 2) fun r3=>(gv)<|(QN)<|Qn ?_
 refine ze rfl ?_ ?_
 ·intro hc0
  exact absurd (of_decide_eq_true hc0) (by omega)
 ·intro hc0
  refine Qk<|(g4)<|(Qf 7)<|(QV 7 1)<|(Q2 1)<|(Qf 7)<|(QtV 1 7) ?_
  refine xQ (c' := shC b l vp v0 v1 vt fi ((tq + 1 : Nat) : Int) dd y2 ow r2v vk u2) rfl ?_
  refine (gg)<|(QD 1)<|(Qm) ?_
  refine z7 (i := 2) (Uz 37) rfl rfl (z3 _ _) (za ⟨fun _ => rfl, fun _ => rfl, fun _ => h1.1, fun _ => h1.2.1, fun _ => h1.2.2.1, fun _ => h1.2.2.2.1, fun _ => rfl, fun _ => rfl, fun _ => rfl, fun _ => rfl, fun _ => rfl, fun _ => rfl, fun _ => rfl, fun _ => rfl, fun _ => rfl, fun _ => rfl, fun _ => rfl, fun _ => rfl, fun _ => rfl, fun _ => rfl, fun _ => rfl, fun _ => h1.2.2.2.2, fun _ => rfl, trivial⟩) rfl z8 (.inl rfl) ?_
  refine (gr) ?_
  exact ⟨_, _, _, rfl, yb 2, yt, yt⟩
set_option maxRecDepth 20000 in
theorem z4Y (b : LN) (l : Bool) (vp v0 v1 vt : Value) (fi : Bool) (tq : Nat) (dd : Bool) (y : SY) (r : RS) (ow : NN) (vk : Value) (us : Nat) (ps : List (NN)) (qs p0 p1 : List Int) (tvs : List Value) (ts : List (List Int)) (hk : Shows G 32 vk ps.length (psC ps)) (hvp : Shows G 1 vp qs.length (qs.map iv)) (hvt : Shows G 1 vt tvs.length tvs) (hLI : zF G (v0 :: v1 :: tvs) (p0 :: p1 :: ts)) (zk : ps.length * 32 ≤ 140737488355328) (zp : qs.length * 8 ≤ 140737488355328) (zt : tvs.length * 24 ≤ 140737488355328) (zl : ∀ q ∈ p0 :: p1 :: ts, q.length * 8 ≤ 140737488355328) (hO : DOR ∈ G) (hp : okP ps) (hy : okY y) (hr : okR r) (ho : B32 ow) (sc : NN) (hs : B32 sc) (vx : Value) (tx : LN) (hvt9 : Sh G vx tx) (htb : By tx) (q : LN) (hqe : ts.getD tq [] = ci q) (hq7 : ∀ x ∈ q, 1 ≤ x ∧ x ≤ 7) (hq6 : q.length ≤ 6) (htl : tq < ts.length) (htz : tq < 1000000) (hm : z7B dd ((tq : Nat) : Int) ts.length ((us : Nat) : Int) fi l (wA l p0 p1 ts) = true) (hlt : tx.length ≤ 400) (w : Nat × SS × LN) (hw : wJ fi ow ps sc q (y, r, us) tx = w) (h0 : w.1 = 0) : Fq G [] 10 #[.agg (shC b l vp v0 v1 vt fi ((tq : Nat) : Int) dd y ow r vk ((us : Nat) : Int)), .agg (arr .u8 32 sc), vx] (fun v l1 nw => l1 = [] ∧ zmz b l qs p0 p1 ts ps fi ((tq + 1 : Nat) : Int) dd w.2.1.1 ow w.2.1.2.1 ((w.2.1.2.2 : Nat) : Int) 0 w.2.2 v nw) := by
 have hwl : w.2.2.length ≤ 1000 := by rw [← hw]; have := zcH (fi := fi) (ow := ow) (ps := ps) (sc := sc) q (y, r, us) tx; omega
 have _u1 := htz
 refine zl1 (n := 40) Tryz.func10 rfl rfl (by simp) (xM [.agg (shC b l vp v0 v1 vt fi ((tq : Nat) : Int) dd y ow r vk ((us : Nat) : Int)), .agg (arr .u8 32 sc), vx] 0) (yi _) ?_
 refine (g4)<|(Qh 0) fun r1=>(Qh 1) fun r2=>(QH 2) fun r3=>(g7)<|Qs<|QR ⟨[], 4, [], none, none⟩<|(QD 0) ?_
 refine yf [(0, _), (1, _), (2, _)] (by repeat (first | exact zq | exact zj _ | apply zg rfl)) ⟨rfl, rfl, rfl, trivial⟩ rfl rfl rfl (Un 36) zo (z2P b l vp v0 v1 vt fi ((tq : Nat) : Int) dd y r ow vk ((us : Nat) : Int) ps qs p0 p1 tvs ts hk hvp hvt hLI zk zp zt zl) (Z0 b l qs p0 p1 ts ps fi ((tq : Nat) : Int) dd y ow r ((us : Nat) : Int)) rfl rfl fun v1_1 nw1_1 hD1_1 => ?_
 simp only [zA]
 obtain ⟨uP, a0, a1, uT, uK, xs, rfl, sP, sT, sL, sK, h1⟩ := hD1_1
 have hxl : xs.length = ts.length := (zL (zL sL)).1
 refine z7 (i := 0) (Uz 37) rfl rfl (z3 _ _) (za ⟨fun _ => rfl, fun _ => rfl, fun _ => h1.1, fun _ => h1.2.1, fun _ => h1.2.2.1, fun _ => h1.2.2.2.1, fun _ => rfl, fun _ => rfl, fun _ => rfl, fun _ => rfl, fun _ => rfl, fun _ => rfl, fun _ => rfl, fun _ => rfl, fun _ => rfl, fun _ => rfl, fun _ => rfl, fun _ => rfl, fun _ => rfl, fun _ => rfl, fun _ => rfl, fun _ => h1.2.2.2.2, fun _ => rfl, trivial⟩) rfl z8 (.inl rfl) ?_
 refine Qn<|Qs<|(gf)<|(Qf 6)<|(QV 6 0) ?_
 refine zD rfl rfl (Un 37) (zR (by repeat (first | exact zq | exact zj _ | apply zg rfl)) rfl) (z1H b l uP a0 a1 uT fi ((tq : Nat) : Int) dd y r ow uK ((us : Nat) : Int) fi p0 p1 xs ts sT sL) rfl rfl ?_
 refine zi (show _ = Value.bool true by rw [hxl, hm]) ?_
 refine (Q0)<|(gp)<|(gc)<|(QC hvt9)<|(QG)<|Qn ?_
 refine ze rfl ?_ ?_
 ·intro hc1
  exact absurd (of_decide_eq_true hc1) (by omega)
 ·intro hc1
  refine Qk<|Qs<|QR ⟨[], 4, [], none, none⟩<|(QD 0)<|(Qd 1)<|(Qm) ?_
  refine zK 3 (fun v => .tuple #[.agg (shC b l uP a0 a1 uT fi ((tq : Nat) : Int) dd w.2.1.1 ow w.2.1.2.1 uK ((w.2.1.2.2 : Nat) : Int)), v, ii w.1]) rfl rfl (Un 38) (zh zo (zR (by repeat (first | exact zq | exact zj _ | apply zg rfl)) rfl)) (z8k (G := G ++ nw1_1) (List.mem_append_left _ hO) b l uP a0 a1 uT fi tq dd y r ow uK us ps (sK.mono (fun x hx => List.mem_append_right _ hx)) hp h1 hy hr ho sc hs q xs (sT.mono (fun x hx => List.mem_append_right _ hx)) (by omega) ((zdL (zL (zL sL)) htl hqe).mono (fun x hx => List.mem_append_right _ hx)) hq7 hq6 vx tx (hvt9.mono (fun x hx => List.mem_append_left _ hx)) htb (by omega) w hw) (by simp only [maxLen]; omega) (by rw [List.length_map, Nat.mul_one]) rfl rfl fun v3_2 oz3_2 ho3_2 => ?_
  refine (ge)<|(Qx)<|(QH 4) fun r5=>?_
  refine z7 (i := 4) (Uz 37) rfl rfl (z3 _ _) (za ⟨fun _ => rfl, fun _ => rfl, fun _ => h1.1, fun _ => h1.2.1, fun _ => h1.2.2.1, fun _ => h1.2.2.2.1, fun _ => rfl, fun _ => rfl, fun _ => rfl, fun _ => rfl, fun _ => rfl, fun _ => rfl, fun _ => rfl, fun _ => rfl, fun _ => rfl, fun _ => rfl, fun _ => rfl, fun _ => rfl, fun _ => rfl, fun _ => rfl, fun _ => rfl, fun _ => h1.2.2.2.2, fun _ => rfl, trivial⟩) rfl z8 (.inl rfl) ?_
  refine (g7)<|(gf)<|(QD 4)<|(ga) ?_
  refine (Ca (z91 b l uP a0 a1 uT fi tq dd y r ow uK ((us : Nat) : Int) w.2.1.1 w.2.1.2.1 ((w.2.1.2.2 : Nat) : Int) _ w.1 h1 h0 htz)) ?_
  refine xJ 3 [(0, _), (1, _), (2, _), (4, _)] rfl rfl (by repeat (first | exact zq | exact zj _ | apply zg rfl)) ⟨rfl, rfl, rfl, rfl, trivial⟩ rfl rfl ?_
  simp only [zA]
  refine (g9)<|(Qx) ?_
  refine z7 (i := 2) (Uz 37) rfl rfl (z3 _ _) (za ⟨fun _ => rfl, fun _ => rfl, fun _ => h1.1, fun _ => h1.2.1, fun _ => h1.2.2.1, fun _ => h1.2.2.2.1, fun _ => rfl, fun _ => rfl, fun _ => rfl, fun _ => rfl, fun _ => rfl, fun _ => rfl, fun _ => rfl, fun _ => rfl, fun _ => rfl, fun _ => rfl, fun _ => rfl, fun _ => rfl, fun _ => rfl, fun _ => rfl, fun _ => rfl, fun _ => h1.2.2.2.2, fun _ => rfl, trivial⟩) rfl z8 (.inl rfl) ?_
  refine (gr) ?_
  exact ⟨_, _, _, _, _, _, (([] ++ nw1_1) ++ oz3_2.toList), rfl, yb 2, yt, yt, ⟨_, _, rfl, wV ⟨uP, a0, a1, uT, uK, xs, rfl, sP, sT, sL, sK, h1⟩ (fun x hx => List.mem_append_left _ hx), ho3_2.shows.mono (fun x hx => List.mem_append_right _ hx)⟩, (by repeat (first | exact zq | exact zj _ | apply zg rfl))⟩
theorem zg7 (hO : DOR ∈ G) (b : LN) (l : Bool) (vp v0 v1 vt : Value) (fi : Bool) (tq : Nat) (dd : Bool) (y : SY) (r : RS) (ow : NN) (vk : Value) (us : Nat) (ps : List (NN)) (hk : Shows G 32 vk ps.length (psC ps)) (hp : okP ps) (h1 : xn vp v0 v1 vt vk) (hy : okY y) (hr : okR r) (ho : B32 ow) (q : LN) (tvs : List Value) (hvt : Shows G 1 vt tvs.length tvs) (htl : tq < tvs.length) (hq : Shows G 1 (tvs.getD tq undef) q.length ((ci q).map iv)) (hq7 : ∀ x ∈ q, 1 ≤ x ∧ x ≤ 7) (hq6 : q.length ≤ 6) (vx : Value) (bx : LN) (hvx : Sh G vx bx) (hbx : By bx) (hbl : bx.length ≤ 100000) (w : Nat × SS × LN) (hw : wR fi ow ps q (y, r, us) bx = w) : Fq G [] 45 #[.agg (shC b l vp v0 v1 vt fi ((tq : Nat) : Int) dd y ow r vk ((us : Nat) : Int)), vx] (fun v l1 nw => l1 = [] ∧ ∃ v', v = .tuple #[.agg (shC b l vp v0 v1 vt fi ((tq : Nat) : Int) dd w.2.1.1 ow w.2.1.2.1 vk ((w.2.1.2.2 : Nat) : Int)), v', ii w.1] ∧ OwnS 5 1 v' w.2.2.length (w.2.2.map by8) nw) := by
 refine QfO Tryz.func45 ?_
 refine (g4)<|(Qh 0) fun r1=>(QH 1) fun r2=>(g7)<|(gu)<|(Qf 0)<|(Qf 5)<|(QV 5 0)<|(Qf 7)<|(QV 7 0) ?_
 refine xf hvt (Uu 27) (Uz 25) rfl rfl (by omega) rfl ?_
 refine (QS) ?_
 refine yc hvt zo (Uu 25) rfl rfl (xU (by omega)) rfl ?_
 refine (QC hq)<|(Qm)<|Qn<|Qb ?_
 refine QzK [(2, _), (4, _), (16, _), (17, _)] [(1, _)] (fun kk E m => ∃ (i : Nat) (y1 : SY) (r1v : RS) (u1 : Nat) (bq : List Nat) (wv : Value), kk = q.length - i ∧ E = [(1, wv), (18, ii i)] ∧ m = [(0, (some ⟨r1, shC b l vp v0 v1 vt fi ((tq : Nat) : Int) dd y1 ow r1v vk ((u1 : Nat) : Int), 37⟩))] ∧ (i ≤ q.length) ∧ (Shows G 1 wv bq.length (bq.map by8)) ∧ (okS (y1, r1v, u1)) ∧ (wN fi ow ps q (y, r, us) bx = wN fi ow ps (q.drop i) (y1, r1v, u1) bq) ∧ (∀ x ∈ bq, x < 256) ∧ (bq.length ≤ 100000)) ⟨0, y, r, us, bx, vx, rfl, rfl, rfl, by omega, hvx, ⟨hy, hr⟩, rfl, hbx, hbl⟩ ⟨rfl, rfl, rfl, rfl, rfl, rfl, trivial⟩ ⟨rfl, rfl, trivial⟩ ?_
 rintro kk E m ⟨i, y1, r1v, u1, bq, wv, rfl, rfl, rfl, hf0_0, hf0_1, hf0_2, hf0_3, hf0_4, hf0_5⟩
 simp only [zB, zA]
 refine (gt) ?_
 refine (Qcd) (fun hc0=>?_) fun hc0=>?_
 ·have hc0 : i < q.length := by omega
  refine Qk<|Qs<|Qb<|(g4) ?_
  refine xf hq (Uu 25) (Uz 3) rfl rfl (by omega) rfl ?_
  refine (QS) ?_
  refine yc hq zo (Uu 3) rfl rfl (z0x (by omega)) rfl ?_
  refine (g3) ?_
  have hx9 := zeT hq7 (show i < q.length by omega)
  obtain ⟨z, hz⟩ : ∃ z, v8 fi ow ps (q.getD i 0) (y1, r1v, u1) bq = z := ⟨_, rfl⟩
  have hst : z.1 ≠ 0 → w = (z.1, z.2.1, []) := fun he => by rw [← hw]; exact z7P (hf0_3.trans (zcN (by omega) hz he)) he
  obtain ⟨v9, hs9, hc9⟩ := zni hO b l vp v0 v1 vt fi ((tq : Nat) : Int) dd y1 r1v ow vk u1 ps hk hp h1 hf0_2.1 hf0_2.2 ho wv bq hf0_1 hf0_4 hf0_5 (q.getD i 0) hx9.1 hx9.2 z hz
  refine (gb)<|Qs ?_
  by_cases he : z.1 = 0
  ·skip
   refine Qp<|(QD 0)<|(ga) ?_
   refine (Ca hc9)<|(ge)<|(Qx) ?_
   refine z7 (i := 0) (Uz 37) rfl rfl (z3 _ _) (za ⟨fun _ => rfl, fun _ => rfl, fun _ => h1.1, fun _ => h1.2.1, fun _ => h1.2.2.1, fun _ => h1.2.2.2.1, fun _ => rfl, fun _ => rfl, fun _ => rfl, fun _ => rfl, fun _ => rfl, fun _ => rfl, fun _ => rfl, fun _ => rfl, fun _ => rfl, fun _ => rfl, fun _ => rfl, fun _ => rfl, fun _ => rfl, fun _ => rfl, fun _ => rfl, fun _ => h1.2.2.2.2, fun _ => rfl, trivial⟩) rfl z8 (.inl rfl) ?_
   refine (g7)<|(g5)<|(QN)<|(Qaf)<|(gp)<|(go) ?_
   refine QzL ⟨i + 1, _, _, _, z.2.2, v9, rfl, rfl, rfl, by omega, (hs9 he), (by rw [← hz]; exact z1C hf0_2 hf0_4), (hf0_3.trans (zbu (by omega) (hz.trans (show z = (0, z.2.1, z.2.2) from Prod.ext he rfl)))), (by rw [← hz]; exact z8W hf0_4), (by have := z4F (fi := fi) (ow := ow) (ps := ps) (t := q.getD i 0) (s := (y1, r1v, u1)) (b := bq); rw [hz] at this; omega)⟩ ⟨rfl, rfl, rfl, rfl, rfl, rfl, trivial⟩ ⟨rfl, rfl, trivial⟩ ?_
   omega
  ·skip
   refine Qp<|(QD 0)<|(ga) ?_
   refine (Ca hc9)<|(ge)<|(Qx) ?_
   refine z7 (i := 0) (Uz 37) rfl rfl (z3 _ _) (za ⟨fun _ => rfl, fun _ => rfl, fun _ => h1.1, fun _ => h1.2.1, fun _ => h1.2.2.1, fun _ => h1.2.2.2.1, fun _ => rfl, fun _ => rfl, fun _ => rfl, fun _ => rfl, fun _ => rfl, fun _ => rfl, fun _ => rfl, fun _ => rfl, fun _ => rfl, fun _ => rfl, fun _ => rfl, fun _ => rfl, fun _ => rfl, fun _ => rfl, fun _ => rfl, fun _ => h1.2.2.2.2, fun _ => rfl, trivial⟩) rfl z8 (.inl rfl) ?_
   refine (g7)<|(g5)<|(QN)<|(Qat)<|Qn<|(Qct) ?_
   obtain rfl := hst he
   refine (gf)<|(Qm) ?_
   refine z7 (i := 1) (Uz 37) rfl rfl (z3 _ _) (za ⟨fun _ => rfl, fun _ => rfl, fun _ => h1.1, fun _ => h1.2.1, fun _ => h1.2.2.1, fun _ => h1.2.2.2.1, fun _ => rfl, fun _ => rfl, fun _ => rfl, fun _ => rfl, fun _ => rfl, fun _ => rfl, fun _ => rfl, fun _ => rfl, fun _ => rfl, fun _ => rfl, fun _ => rfl, fun _ => rfl, fun _ => rfl, fun _ => rfl, fun _ => rfl, fun _ => h1.2.2.2.2, fun _ => rfl, trivial⟩) rfl z8 (.inl rfl) ?_
   refine (gr) ?_
   exact ⟨_, _, _, _, _, 99, rfl, yb 1, yt, yt, (zw (ym _ _) (by first | rfl | (rw [hen h0]; rfl)) (by first | rfl | (rw [hen h0]; rfl))), rfl⟩
 ·have hz0 : i = q.length := by omega
  have hrun := hf0_3.trans (zgl hz0)
  obtain ⟨e2, he2⟩ : ∃ e, yA y1 bq = e := ⟨_, rfl⟩
  have hfin : w = (e2.1, (e2.2.1, r1v, u1), e2.2.2) := by rw [← hw]; exact zbp hrun he2
  have hel : e2.2.2.length ≤ bq.length := by rw [← he2]; exact V5 y1 bq
  have hen : e2.1 ≠ 0 → e2.2.2 = [] := fun h => by rw [← he2] at h ⊢; exact zcp h
  subst hfin
  refine Qe<|Qs ?_
  by_cases h0 : e2.1 = 0
  ·skip
   refine QR ⟨[], 4, [], none, none⟩<|(QD 0)<|(Qm) ?_
   refine zK 2 (fun v => .tuple #[.agg (shC b l vp v0 v1 vt fi ((tq : Nat) : Int) dd e2.2.1 ow r1v vk ((u1 : Nat) : Int)), v, ii 0]) rfl rfl (Un 74) zo (z1W hO b l vp v0 v1 vt fi ((tq : Nat) : Int) dd y1 r1v ow vk ((u1 : Nat) : Int) h1 hf0_2.1 wv bq hf0_1 hf0_4 e2 he2 hf0_5 h0) (by simp only [maxLen]; omega) (by rw [List.length_map, Nat.mul_one]) rfl rfl fun v3_1 oz3_1 ho3_1 => ?_
   refine (g9)<|(Qx) ?_
   refine z7 (i := 1) (Uz 37) rfl rfl (z3 _ _) (za ⟨fun _ => rfl, fun _ => rfl, fun _ => h1.1, fun _ => h1.2.1, fun _ => h1.2.2.1, fun _ => h1.2.2.2.1, fun _ => rfl, fun _ => rfl, fun _ => rfl, fun _ => rfl, fun _ => rfl, fun _ => rfl, fun _ => rfl, fun _ => rfl, fun _ => rfl, fun _ => rfl, fun _ => rfl, fun _ => rfl, fun _ => rfl, fun _ => rfl, fun _ => rfl, fun _ => h1.2.2.2.2, fun _ => rfl, trivial⟩) rfl z8 (.inl rfl) ?_
   refine (Qa)<|(Qa) ?_
   refine zi (show _ = ii e2.1 by rw [h0]; rfl) ?_
   refine Qn<|Qr ?_
   exact ⟨_, _, _, _, _, 2, rfl, yb 1, yt, yt, (zw ho3_1 (by first | rfl | (rw [hen h0]; rfl)) (by first | rfl | (rw [hen h0]; rfl))), rfl⟩
  ·skip
   refine Qp<|(QD 0)<|(Qm) ?_
   refine (Ca (VA hO b l vp v0 v1 vt fi ((tq : Nat) : Int) dd y1 r1v ow vk ((u1 : Nat) : Int) h1 hf0_2.1 wv bq hf0_1 hf0_4 e2 he2 h0))<|(g9)<|(Qx) ?_
   refine z7 (i := 1) (Uz 37) rfl rfl (z3 _ _) (za ⟨fun _ => rfl, fun _ => rfl, fun _ => h1.1, fun _ => h1.2.1, fun _ => h1.2.2.1, fun _ => h1.2.2.2.1, fun _ => rfl, fun _ => rfl, fun _ => rfl, fun _ => rfl, fun _ => rfl, fun _ => rfl, fun _ => rfl, fun _ => rfl, fun _ => rfl, fun _ => rfl, fun _ => rfl, fun _ => rfl, fun _ => rfl, fun _ => rfl, fun _ => rfl, fun _ => h1.2.2.2.2, fun _ => rfl, trivial⟩) rfl z8 (.inl rfl) ?_
   refine (gr) ?_
   exact ⟨_, _, _, _, _, 99, rfl, yb 1, yt, yt, (zw (ym _ _) (by first | rfl | (rw [hen h0]; rfl)) (by first | rfl | (rw [hen h0]; rfl))), rfl⟩
set_option maxRecDepth 20000 in
theorem z9W (b : LN) (l : Bool) (vp v0 v1 vt : Value) (fi : Bool) (tq : Nat) (dd : Bool) (y : SY) (r : RS) (ow : NN) (vk : Value) (us : Nat) (ps : List (NN)) (qs p0 p1 : List Int) (tvs : List Value) (ts : List (List Int)) (hk : Shows G 32 vk ps.length (psC ps)) (hvp : Shows G 1 vp qs.length (qs.map iv)) (hvt : Shows G 1 vt tvs.length tvs) (hLI : zF G (v0 :: v1 :: tvs) (p0 :: p1 :: ts)) (zk : ps.length * 32 ≤ 140737488355328) (zp : qs.length * 8 ≤ 140737488355328) (zt : tvs.length * 24 ≤ 140737488355328) (zl : ∀ q ∈ p0 :: p1 :: ts, q.length * 8 ≤ 140737488355328) (hO : DOR ∈ G) (hp : okP ps) (hy : okY y) (hr : okR r) (ho : B32 ow) (vx : Value) (tx : LN) (hvt9 : Sh G vx tx) (htb : By tx) (q : LN) (hqe : ts.getD tq [] = ci q) (hq7 : ∀ x ∈ q, 1 ≤ x ∧ x ≤ 7) (hq6 : q.length ≤ 6) (htl : tq < ts.length) (htz : tq < 1000000) (hm : z7B dd ((tq : Nat) : Int) ts.length ((us : Nat) : Int) (!fi) l (wA l p0 p1 ts) = true) (hlt : tx.length ≤ 800) (w : Nat × SS × LN) (hw : wR fi ow ps q (y, r, us) tx = w) (h0 : w.1 = 0) : Fq G [] 13 #[.agg (shC b l vp v0 v1 vt fi ((tq : Nat) : Int) dd y ow r vk ((us : Nat) : Int)), vx] (fun v l1 nw => l1 = [] ∧ zmz b l qs p0 p1 ts ps fi ((tq + 1 : Nat) : Int) dd w.2.1.1 ow w.2.1.2.1 ((w.2.1.2.2 : Nat) : Int) 0 w.2.2 v nw) := by
 have hwl : w.2.2.length ≤ 1000 := by rw [← hw]; have := zaE (fi := fi) (ow := ow) (ps := ps) q (y, r, us) tx; omega
 have _u1 := htz
 refine zl1 (n := 38) Tryz.func13 rfl rfl (by simp) (xM [.agg (shC b l vp v0 v1 vt fi ((tq : Nat) : Int) dd y ow r vk ((us : Nat) : Int)), vx] 0) (yi _) ?_
 refine (g4)<|(Qh 0) fun r1=>(QH 1) fun r2=>(g7)<|Qs<|QR ⟨[], 4, [], none, none⟩<|(QD 0) ?_
 refine yf [(0, _), (1, _)] (by repeat (first | exact zq | exact zj _ | apply zg rfl)) ⟨rfl, rfl, trivial⟩ rfl rfl rfl (Un 36) zo (z2P b l vp v0 v1 vt fi ((tq : Nat) : Int) dd y r ow vk ((us : Nat) : Int) ps qs p0 p1 tvs ts hk hvp hvt hLI zk zp zt zl) (Z0 b l qs p0 p1 ts ps fi ((tq : Nat) : Int) dd y ow r ((us : Nat) : Int)) rfl rfl fun v1_1 nw1_1 hD1_1 => ?_
 simp only [zA]
 obtain ⟨uP, a0, a1, uT, uK, xs, rfl, sP, sT, sL, sK, h1⟩ := hD1_1
 have hxl : xs.length = ts.length := (zL (zL sL)).1
 refine z7 (i := 0) (Uz 37) rfl rfl (z3 _ _) (za ⟨fun _ => rfl, fun _ => rfl, fun _ => h1.1, fun _ => h1.2.1, fun _ => h1.2.2.1, fun _ => h1.2.2.2.1, fun _ => rfl, fun _ => rfl, fun _ => rfl, fun _ => rfl, fun _ => rfl, fun _ => rfl, fun _ => rfl, fun _ => rfl, fun _ => rfl, fun _ => rfl, fun _ => rfl, fun _ => rfl, fun _ => rfl, fun _ => rfl, fun _ => rfl, fun _ => h1.2.2.2.2, fun _ => rfl, trivial⟩) rfl z8 (.inl rfl) ?_
 refine Qn<|Qs<|(gf)<|(Qf 6)<|(QV 6 0)<|(Q0) ?_
 refine zD rfl rfl (Un 37) (zR (by repeat (first | exact zq | exact zj _ | apply zg rfl)) rfl) (z1H b l uP a0 a1 uT fi ((tq : Nat) : Int) dd y r ow uK ((us : Nat) : Int) (!fi) p0 p1 xs ts sT sL) rfl rfl ?_
 refine zi (show _ = Value.bool true by rw [hxl, hm]) ?_
 refine (Q0)<|(gp)<|(gc)<|(QC hvt9)<|(QG)<|Qn ?_
 refine ze rfl ?_ ?_
 ·intro hc1
  exact absurd (of_decide_eq_true hc1) (by omega)
 ·intro hc1
  refine Qk<|Qs<|QR ⟨[], 4, [], none, none⟩<|(QD 0)<|(Qm) ?_
  refine zK 2 (fun v => .tuple #[.agg (shC b l uP a0 a1 uT fi ((tq : Nat) : Int) dd w.2.1.1 ow w.2.1.2.1 uK ((w.2.1.2.2 : Nat) : Int)), v, ii w.1]) rfl rfl (Un 45) (zh zo (zR (by repeat (first | exact zq | exact zj _ | apply zg rfl)) rfl)) (zg7 (G := G ++ nw1_1) (List.mem_append_left _ hO) b l uP a0 a1 uT fi tq dd y r ow uK us ps (sK.mono (fun x hx => List.mem_append_right _ hx)) hp h1 hy hr ho q xs (sT.mono (fun x hx => List.mem_append_right _ hx)) (by omega) ((zdL (zL (zL sL)) htl hqe).mono (fun x hx => List.mem_append_right _ hx)) hq7 hq6 vx tx (hvt9.mono (fun x hx => List.mem_append_left _ hx)) htb (by omega) w hw) (by simp only [maxLen]; omega) (by rw [List.length_map, Nat.mul_one]) rfl rfl fun v3_2 oz3_2 ho3_2 => ?_
  refine (ge)<|(Qx)<|(QH 3) fun r4=>?_
  refine z7 (i := 3) (Uz 37) rfl rfl (z3 _ _) (za ⟨fun _ => rfl, fun _ => rfl, fun _ => h1.1, fun _ => h1.2.1, fun _ => h1.2.2.1, fun _ => h1.2.2.2.1, fun _ => rfl, fun _ => rfl, fun _ => rfl, fun _ => rfl, fun _ => rfl, fun _ => rfl, fun _ => rfl, fun _ => rfl, fun _ => rfl, fun _ => rfl, fun _ => rfl, fun _ => rfl, fun _ => rfl, fun _ => rfl, fun _ => rfl, fun _ => h1.2.2.2.2, fun _ => rfl, trivial⟩) rfl z8 (.inl rfl) ?_
  refine (g7)<|(gf)<|(QD 3)<|(ga) ?_
  refine (Ca (z91 b l uP a0 a1 uT fi tq dd y r ow uK ((us : Nat) : Int) w.2.1.1 w.2.1.2.1 ((w.2.1.2.2 : Nat) : Int) _ w.1 h1 h0 htz)) ?_
  refine xJ 2 [(0, _), (1, _), (3, _)] rfl rfl (by repeat (first | exact zq | exact zj _ | apply zg rfl)) ⟨rfl, rfl, rfl, trivial⟩ rfl rfl ?_
  simp only [zA]
  refine (g9)<|(Qx) ?_
  refine z7 (i := 1) (Uz 37) rfl rfl (z3 _ _) (za ⟨fun _ => rfl, fun _ => rfl, fun _ => h1.1, fun _ => h1.2.1, fun _ => h1.2.2.1, fun _ => h1.2.2.2.1, fun _ => rfl, fun _ => rfl, fun _ => rfl, fun _ => rfl, fun _ => rfl, fun _ => rfl, fun _ => rfl, fun _ => rfl, fun _ => rfl, fun _ => rfl, fun _ => rfl, fun _ => rfl, fun _ => rfl, fun _ => rfl, fun _ => rfl, fun _ => h1.2.2.2.2, fun _ => rfl, trivial⟩) rfl z8 (.inl rfl) ?_
  refine (gr) ?_
  exact ⟨_, _, _, _, _, _, (([] ++ nw1_1) ++ oz3_2.toList), rfl, yb 1, yt, yt, ⟨_, _, rfl, wV ⟨uP, a0, a1, uT, uK, xs, rfl, sP, sT, sL, sK, h1⟩ (fun x hx => List.mem_append_left _ hx), ho3_2.shows.mono (fun x hx => List.mem_append_right _ hx)⟩, (by repeat (first | exact zq | exact zj _ | apply zg rfl))⟩
theorem vN (b : LN) (l : Bool) (vp v0 v1 vt : Value) (fi : Bool) (tn : Int) (dd : Bool) (y : SY) (r : RS) (ow : NN) (vk : Value) (us : Int) (tvs : List Value) (hvt : Shows G 1 vt tvs.length tvs) : Fp G 20 #[.agg (shC b l vp v0 v1 vt fi tn dd y ow r vk us)] (.bool (z0H dd tvs.length tn)) := by
 refine Qf1 Tryz.func20 ?_
 refine (g4)<|(Qh 0) fun r1=>(g3)<|(g4) ?_
 refine zW [(0, _), (1, _)] [(2, .bool (z0H dd tvs.length tn))] [(0, some _)] ⟨rfl, rfl, trivial⟩ ⟨rfl, trivial⟩ ?_ ?_
 ·skip
  refine (Qf 8)<|(QV 8 0)<|(Q0)<|(Qm) ?_
  refine zM (b := (!dd)) (fun hb0 => ?_) (fun hb0 => ?_)
  ·skip
   refine (Qy)<|(Qf 7)<|(Qy)<|(QV 7 0)<|(Qy)<|(Qf 0)<|(Qy)<|(Qf 5)<|(Qy)<|(QV 5 0)<|(Qy)<|(QC hvt)<|(Qy)<|(QE)<|(QT)<|(g3) ?_
   exact ⟨⟨rfl, rfl, trivial⟩, ⟨zf (by rw [z0H, hb0] <;> rfl), trivial⟩, ⟨rfl, trivial⟩⟩
  ·skip
   refine (gm)<|(gz)<|(QF)<|(g3) ?_
   exact ⟨⟨rfl, rfl, trivial⟩, ⟨zf (by rw [z0H, hb0] <;> rfl), trivial⟩, ⟨rfl, trivial⟩⟩
 ·simp only [zB]
  refine Qr ?_
  exact ⟨_, rfl, yt⟩
theorem z1S (hO : DOR ∈ G) (b : LN) (l : Bool) (vp v0 v1 vt : Value) (fi : Bool) (tn : Int) (dd : Bool) (y : SY) (r : RS) (ow : NN) (vk : Value) (us : Int) (tvs : List Value) (hvt : Shows G 1 vt tvs.length tvs) (hy : okY y) (hd : (z0H dd tvs.length tn) = true) : Fp G 19 #[.agg (shC b l vp v0 v1 vt fi tn dd y ow r vk us)] (.tuple #[.agg (zr 68 [pV (.bool true), pI .u8 32 (kA y.2.2.2.1 []), pV (u 0), pV (.bool true), pI .u8 32 (kB y.2.2.2.1 []), pV (u 0)]), ii 0]) := by
 have hS := (z7q (G := G) y.1 y.2.1 y.2.2.1 y.2.2.2.1 y.2.2.2.2 hy.2.2.1).more (in1 hO)
 obtain ⟨fa, hfa⟩ : ∃ f, f = kA y.2.2.2.1 [] := ⟨_, rfl⟩
 obtain ⟨fb, hfb⟩ : ∃ f, f = kB y.2.2.2.1 [] := ⟨_, rfl⟩
 rw [← hfa, ← hfb] at hS ⊢
 refine Qf2 Tryz.func19 ?_
 refine (g4)<|(Qh 0) fun r1=>(QH 1) fun r2=>(g3)<|Qs<|(gf) ?_
 refine (Ca (vN b l vp v0 v1 vt fi tn dd y r ow vk us tvs hvt)) ?_
 refine (Ab hd)<|(Q0)<|(gp)<|(g4)<|(Qf 9)<|(QlK 0 9 5) ?_
 refine (Av (SVy y)) ?_
 refine (Ca hS)<|(QW 1)<|(gh) ?_
 exact ⟨_, _, rfl, yb 1, yt⟩
theorem z72 (l : LN) (m : Nat) : Fp G 18 #[sv l, ii m] (sv (l.take m)) := by
 refine Qf1 Tryz.func18 ?_
 refine (g4) ?_
 refine y8 (v := sv []) rfl rfl ?_
 refine Qn<|(g5)<|(Qm)<|(QU)<|(Qm) ?_
 refine zn5 rfl rfl rfl rfl ?_
 refine zG 0 (min l.length m) (Uu 9) rfl rfl rfl rfl ⟨_, rfl⟩ (by omega) (by omega) rfl ?_
 refine zi (congrArg sv (zck l m)) ?_
 refine (gh) ?_
 exact ⟨_, rfl, yt⟩
theorem vV (z : Int) (m : Nat) (hm : 0 < m) (hm2 : m < 4294967296) : Fp G 22 #[.int .i64 z, ii m] (ii (pkn z m)) := by
 have htm := zhA z hm
 refine Qf1 Tryz.func22 ?_
 refine (gb)<|(g5)<|(Qm) ?_
 refine ziR rfl rfl rfl (by omega) ?_
 refine (gx)<|(Ql)<|Qn ?_
 refine (Qcd) (fun hc0=>?_) fun hc0=>?_
 ·refine Qp<|(Qm)<|(Qm) ?_
  refine zjL rfl rfl rfl (by omega) (by omega) ?_
  refine zi (congrArg (Value.int .i64) (zjI hm hc0)) ?_
  refine (gj)<|(gh) ?_
  exact ⟨_, rfl, yt⟩
 ·rw [ii, ← zhF hm hc0]
  refine Qk<|(g5)<|(gh) ?_
  exact ⟨_, rfl, yt⟩
theorem zb5 (t k : Nat) (ht : t ≤ 10) (hm : k ≤ 15) : Fq G [] 48 #[ii t, ii k] (fun v l1 nw => l1 = [] ∧ ∃ v', v = v' ∧ OwnS 3 1 v' (plc t k).length ((plc t k).map (fun x : Nat => ii x)) nw) := by
 refine QfN Tryz.func48 ?_
 refine (gb)<|(gb)<|(gc)<|(gn)<|Qb ?_
 refine QzK [(1, _), (4, _), (8, _)] [] (fun kk E m => ∃ (i : Nat) (w : Value) (oz : Option Blk), kk = (t + 1) - i ∧ E = [(5, w), (9, ii i)] ∧ m = [(50, oz)] ∧ (i ≤ (t + 1)) ∧ (OwnS 3 1 w (z1o k i).length ((z1o k i).map (fun x : Nat => ii x)) oz.toList)) ⟨0, zV, none, rfl, rfl, rfl, by omega, (ym _ _)⟩ ⟨rfl, rfl, rfl, rfl, rfl, trivial⟩ ⟨rfl, trivial⟩ ?_
 rintro kk E m ⟨i, w, oz, rfl, rfl, rfl, hf0_0, hf0_1⟩
 simp only [zB, zA]
 have hul := z6t k i
 have hdv : k / 2 ^ i ≤ 15 := Nat.le_trans (Nat.div_le_self _ _) hm
 refine (gt) ?_
 refine (Qcd) (fun hc0=>?_) fun hc0=>?_
 ·have hc0 : i < (t + 1) := by omega
  refine Qk<|Qs<|Qb<|(g5)<|(gj)<|(Qm) ?_
  refine Zg rfl rfl rfl (by omega) ?_
  refine zdJ hdv rfl rfl rfl ?_
  refine (Qc)<|Qn ?_
  refine (Qcd) (fun hc1=>?_) fun hc1=>?_
  ·have hc1 : k / 2 ^ i % 2 = 1 := by omega
   refine Qp<|(ga) ?_
   refine zu 0 #[ii i] (Uu 25 rfl) (Uz 3 rfl) (Ub 3 rfl) (by decide) (by decide) rfl (by kernel_rfl) rfl fun r1 => ?_
   refine x9 50 hf0_1 (yX _ _ (by rfl)) rfl (zY 0 rfl ⟨[], trivial⟩) (Uu 25) (Uz 3) (Uy 3) (Ub 3) (by rfl) rfl rfl (z4A i) (by simp only [maxLen]; omega) (by omega) rfl fun v3_1 oz3_1 ho3_1 => ?_
   refine (g3)<|(go) ?_
   refine QzL ⟨i + 1, _, _, rfl, rfl, rfl, by omega, (by first | exact zw ho3_1 (by rw [Wn hc1, List.length_append]; rfl) (by rw [Wn hc1, List.map_append]; rfl) | exact zw hf0_1 (by rw [z0h hc1]) (by rw [z0h hc1]))⟩ ⟨rfl, rfl, rfl, rfl, rfl, trivial⟩ ⟨rfl, trivial⟩ ?_
   omega
  ·have hc1 : ¬ k / 2 ^ i % 2 = 1 := by omega
   refine Qk<|(go) ?_
   refine QzL ⟨i + 1, _, _, rfl, rfl, rfl, by omega, (by first | exact zw ho3_1 (by rw [Wn hc1, List.length_append]; rfl) (by rw [Wn hc1, List.map_append]; rfl) | exact zw hf0_1 (by rw [z0h hc1]) (by rw [z0h hc1]))⟩ ⟨rfl, rfl, rfl, rfl, rfl, trivial⟩ ⟨rfl, trivial⟩ ?_
   omega
 ·have hz0 : i = (t + 1) := by omega
  refine Qe<|(g5)<|(gh) ?_
  exact ⟨_, _, _, 50, rfl, yt, (zw hf0_1 (by rw [hz0]) (by rw [hz0])), rfl⟩
theorem z2j (DG : Mem) (zn zm : Int) (hW : ∀ (G : Mem) (v : Value) (l : LN) (ps : List Int), (By l) → ps.length ≤ 1000000 → Shows (DG ++ G) 1 v ps.length (ps.map iv) → (wP l ps).1 = 0 → Fq (DG ++ G) [] 47 #[sv l, v] (fun w l1 nw => l1 = [] ∧ ∃ w', w = .tuple #[w', ii 0] ∧ Z3 l (decide (l = nXF)) ps (wq l ps 0) (wq l ps 1) (wt l ps) w' nw)) : Fq ((⟨0, (nm6.map sv).toArray, 85⟩ : Blk) :: (DG ++ G)) [] 15 #[.int .i64 zn, .int .i64 zm] (fun w l1 nw => l1 = [] ∧ ∃ w', w = .tuple #[w', .bool true] ∧ YM (nmK (pkn zn 6)) (decide ((nmK (pkn zn 6)) = nXF)) (psK (pkn zn 6) (pkn zm 16)) (wq (nmK (pkn zn 6)) (ci (psK (pkn zn 6) (pkn zm 16))) 0) (wq (nmK (pkn zn 6)) (ci (psK (pkn zn 6) (pkn zm 16))) 1) (wt (nmK (pkn zn 6)) (ci (psK (pkn zn 6) (pkn zm 16)))) w' nw) := by
 have hk := z42 zn (m := 6) (by decide)
 have hj := z42 zm (m := 16) (by decide)
 obtain ⟨hb1, hb2, hb3, hb4⟩ := zhp _ hk
 have hwa := ze0 _ hk _ hj
 refine zf1 (n := 44) Tryz.func15 rfl rfl (by simp) (xM [.int .i64 zn, .int .i64 zm] 0) (yi _) ?_
 refine (g4)<|(QH 0) fun r1=>(gj) ?_
 refine (Ca (vV zn 6 (by decide) (by decide))) ?_
 refine Z5 (Uu 85) (Uz 9) rfl rfl hk rfl ?_
 refine yo (i := 0) (Uu 9) rfl rfl rfl (zkG hk) rfl ?_
 refine (g3)<|Qs<|QR ⟨[], 4, [], none, none⟩<|(Qm) ?_
 refine yf [(0, _)] (by repeat (first | exact zq | exact zj _ | apply zg rfl)) ⟨rfl, trivial⟩ rfl rfl rfl (Un 47) (z4O (fun x hx => List.mem_cons_of_mem _ hx)) (hW G zV (nmK (pkn zn 6)) [] hb4 (by simp) (.inl ⟨rfl, rfl, none, 0, rfl, fun _ => rfl⟩) hb1) (vZ (nmK (pkn zn 6)) (decide ((nmK (pkn zn 6)) = nXF)) [] (wq (nmK (pkn zn 6)) [] 0) (wq (nmK (pkn zn 6)) [] 1) (wt (nmK (pkn zn 6)) [])) rfl rfl fun v1_1 nw1_1 hD1_1 => ?_
 simp only [zA]
 obtain ⟨_, rfl, vp1, hp1, va1, vb1, vt1, tv1, rfl, ha1, hb1', ht1, hn1, hl1⟩ := hD1_1
 refine (ge)<|(QH 1) fun r2=>?_
 refine z7 (i := 1) (Uz 29) rfl rfl (z3 _ _) (Zw (z5 hp1) (z5 ha1) (z5 hb1') (z5 ht1)) rfl z8 (.inl rfl) ?_
 refine (g3)<|Qs<|(Qq ⟨[], 4, [], none, none⟩)<|(Qm)<|(Qf 5)<|(QV 5 1)<|(QC ht1) ?_
 refine (Av (ii (tnK (pkn zn 6))))<|(Qm) ?_
 refine (Ca (vV zm 16 (by decide) (by decide))) ?_
 refine zK 2 (fun v => v) rfl rfl (Un 48) zo (zb5 (tnK (pkn zn 6)) (pkn zm 16) (by omega) (by omega)) (by have := z8X (tnK (pkn zn 6)) (pkn zm 16); simp only [maxLen]; omega) (by rw [List.length_map, Nat.mul_one]) rfl rfl fun v1_2 oz1_2 ho1_2 => ?_
 refine yf [(0, _), (1, _), (2, _)] (by repeat (first | exact zq | exact zj _ | apply zg rfl)) ⟨rfl, rfl, rfl, trivial⟩ rfl rfl rfl (Un 47) (zh (z4O (fun x hx => List.mem_cons_of_mem _ (List.mem_append_left _ hx))) (xF 2 rfl ⟨[], trivial⟩)) (hW oz1_2.toList v1_2 (nmK (pkn zn 6)) (ci (psK (pkn zn 6) (pkn zm 16))) hb4 (by have := zjR (pkn zn 6) (pkn zm 16); simp only [ci, List.length_map]; omega) (by rw [z6o, show (ci (psK (pkn zn 6) (pkn zm 16))).length = (psK (pkn zn 6) (pkn zm 16)).length by simp [ci]]; exact ho1_2.shows.mono (fun x hx => List.mem_append_right _ hx)) hwa) (vZ (nmK (pkn zn 6)) (decide ((nmK (pkn zn 6)) = nXF)) (ci (psK (pkn zn 6) (pkn zm 16))) (wq (nmK (pkn zn 6)) (ci (psK (pkn zn 6) (pkn zm 16))) 0) (wq (nmK (pkn zn 6)) (ci (psK (pkn zn 6) (pkn zm 16))) 1) (wt (nmK (pkn zn 6)) (ci (psK (pkn zn 6) (pkn zm 16))))) rfl rfl fun v1_3 nw1_3 hD1_3 => ?_
 simp only [zA]
 obtain ⟨_, rfl, vp2, hp2, va2, vb2, vt2, tv2, rfl, ha2, hb2', ht2, hn2, hl2⟩ := hD1_3
 refine (ge)<|(QH 3) fun r4=>?_
 refine z7 (i := 3) (Uz 29) rfl rfl (z3 _ _) (Zw (z5 hp2) (z5 ha2) (z5 hb2') (z5 ht2)) rfl z8 (.inl rfl) ?_
 refine (g3)<|Qs<|(Qq ⟨[r1], 1, [], none, none⟩) ?_
 refine zS (i := 3) (Uu 29) rfl (Uz 29) rfl rfl (z3 _ _) rfl ⟨[0], rfl, rfl, trivial⟩ ?_
 refine xJ 2 [(0, _), (1, _), (3, _)] rfl rfl (by repeat (first | exact zq | exact zj _ | apply zg rfl)) ⟨rfl, rfl, rfl, trivial⟩ rfl rfl ?_
 simp only [zA]
 refine (Qm)<|(Qc)<|(Qar)<|(gk)<|(Qc)<|(Qar)<|(QT)<|(g8)<|(Qf 5)<|(Qy) ?_
 refine z0Q (i := 1) 5 (Uu 27) rfl rfl rfl rfl (by decide) rfl ⟨[0], rfl, rfl, trivial⟩ ?_
 refine (Qy)<|(QC ht1) ?_
 refine (Av (ii (tnK (pkn zn 6))))<|(Qy)<|(QE)<|(Qat)<|(QT) ?_
 refine z7 (i := 0) (Uz 29) rfl rfl (z3 _ _) (Zw (z5 hp2) (z5 ha2) (z5 hb2') (z5 ht2)) rfl z8 (.inr (by simp)) ?_
 refine (gh) ?_
 exact ⟨_, _, _, ((([] ++ nw1_1) ++ nw1_3) ++ oz1_2.toList), rfl, yb 0, yt, (z4y (zcl ⟨vp2, hp2, va2, vb2, vt2, tv2, rfl, ha2, hb2', ht2, hn2, hl2⟩ (fun x hx => List.mem_append_left _ (List.mem_append_right _ hx)))), (by repeat (first | exact zq | exact zj _ | apply zg rfl))⟩
end Go.Proofs.YtacflmjoigffpaaGreatDoor
