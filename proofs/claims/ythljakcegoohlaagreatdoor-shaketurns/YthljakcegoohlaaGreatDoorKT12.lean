import Derived.Test.YthljakcegoohlaaGreatDoorKT11
set_option maxRecDepth 30000
namespace Go.Proofs.YthljakcegoohlaaGreatDoor
open Go Go.RowKit
variable {G : Mem}
set_option maxHeartbeats 8000000 in
theorem heard_fn (hO : DOR ∈ G) (b : List Nat) (l : Bool) (vp v0 v1 vt : Value) (fi : Bool) (tq : Nat) (dd : Bool) (y : SY) (r : RS) (ow : Nat → Nat) (vk : Value) (us : Nat) (ps : List (Nat → Nat)) (hk : Shows G 32 vk ps.length (psC ps)) (hp : okP ps) (h1 : ones vp v0 v1 vt vk) (hy : okY y) (hr : okR r) (ho : B32 ow) (q : List Nat) (tvs : List Value) (hvt : Shows G 1 vt tvs.length tvs) (htl : tq < tvs.length) (hq : Shows G 1 (tvs.getD tq undef) q.length ((ci q).map iv)) (hq7 : ∀ x ∈ q, 1 ≤ x ∧ x ≤ 7) (hq6 : q.length ≤ 6) (vx : Value) (bx : List Nat) (hvx : Sh G vx bx) (hbx : ∀ x ∈ bx, x < 256) (hbl : bx.length ≤ 100000) (w : Nat × SS × List Nat) (hw : turnR fi ow ps q (y, r, us) bx = w) : Fx Tryz.prog G [] 46 #[.agg (shC b l vp v0 v1 vt fi ((tq : Nat) : Int) dd y ow r vk ((us : Nat) : Int)), vx] (fun v l1 nw => l1 = [] ∧ ∃ v', v = .tuple #[.agg (shC b l vp v0 v1 vt fi ((tq : Nat) : Int) dd w.2.1.1 ow w.2.1.2.1 vk ((w.2.1.2.2 : Nat) : Int)), v', ii w.1] ∧ OwnS 5 1 v' w.2.2.length (w.2.2.map by8) nw) := by
  refine QfO Tryz.func46 ?_
  refine Qs<|Qp<|(Qh 0) fun r1=>(QH 1) fun r2=>(Qa)<|(Qa)<|Qn<|Qs<|Qs<|Qp<|(Qf 0)<|(Qf 5)<|(QV 5 0)<|(Qf 7)<|(QV 7 0) ?_
  refine e_atV hvt (Uu 27) (Uz 25) rfl rfl (by omega) rfl ?_
  refine (QS) ?_
  refine e_loadV hvt seenG (Uu 25) rfl rfl (get_getD (by omega)) rfl ?_
  refine (QC hq)<|(Qm)<|Qn<|Qb ?_
  refine QzK [(2, _), (4, _), (16, _), (17, _)] [(1, _)] (fun kk E m => ∃ (i : Nat) (y1 : SY) (r1v : RS) (u1 : Nat) (bq : List Nat) (wv : Value), kk = q.length - i ∧ E = [(1, wv), (18, ii i)] ∧ m = [(0, (some ⟨r1, shC b l vp v0 v1 vt fi ((tq : Nat) : Int) dd y1 ow r1v vk ((u1 : Nat) : Int), 37⟩))] ∧ (i ≤ q.length) ∧ (Shows G 1 wv bq.length (bq.map by8)) ∧ (okS (y1, r1v, u1)) ∧ (runR fi ow ps q (y, r, us) bx = runR fi ow ps (q.drop i) (y1, r1v, u1) bq) ∧ (∀ x ∈ bq, x < 256) ∧ (bq.length ≤ 100000)) ⟨0, y, r, us, bx, vx, rfl, rfl, rfl, by omega, hvx, ⟨hy, hr⟩, rfl, hbx, hbl⟩ ⟨rfl, rfl, rfl, rfl, rfl, rfl, trivial⟩ ⟨rfl, rfl, trivial⟩ ?_
  rintro kk E m ⟨i, y1, r1v, u1, bq, wv, rfl, rfl, rfl, hf0_0, hf0_1, hf0_2, hf0_3, hf0_4, hf0_5⟩
  simp only [catE, catL]
  refine Qs<|Qp<|(Ql)<|Qn<|Qs ?_
  refine e_cond rfl ?_ ?_
  · intro hc0
    have hc0 : i < q.length := by have := of_decide_eq_true hc0; omega
    refine Qk<|Qs<|Qb<|Qs<|Qp ?_
    refine e_atV hq (Uu 25) (Uz 3) rfl rfl (by omega) rfl ?_
    refine (QS) ?_
    refine e_loadV hq seenG (Uu 3) rfl rfl (ci_at (by omega)) rfl ?_
    refine (Qa)<|Qn ?_
    have hx9 := tok_in hq7 (show i < q.length by omega)
    obtain ⟨z, hz⟩ : ∃ z, tokR fi ow ps (q.getD i 0) (y1, r1v, u1) bq = z := ⟨_, rfl⟩
    have hst : z.1 ≠ 0 → w = (z.1, z.2.1, []) := fun he => by rw [← hw]; exact turnR_stop (hf0_3.trans (runR_stop (by omega) hz he)) he
    obtain ⟨v9, hs9, hc9⟩ := hearA hO b l vp v0 v1 vt fi ((tq : Nat) : Int) dd y1 r1v ow vk u1 ps hk hp h1 hf0_2.1 hf0_2.2 ho wv bq hf0_1 hf0_4 hf0_5 (q.getD i 0) hx9.1 hx9.2 z hz
    refine Qs<|Qp<|(Qa)<|Qn<|Qs ?_
    by_cases he : z.1 = 0
    · skip
      refine Qp<|(QD 0)<|(Qm)<|(Qm) ?_
      refine e_call rfl (Un 74) hc9 rfl rfl ?_
      refine (Qm)<|(Qx)<|(Qx)<|(Qx) ?_
      refine e_storeA (i := 0) (Uz 37) rfl rfl (arrv_size _ _) (cells_one ⟨fun _ => rfl, fun _ => rfl, fun _ => h1.1, fun _ => h1.2.1, fun _ => h1.2.2.1, fun _ => h1.2.2.2.1, fun _ => rfl, fun _ => rfl, fun _ => rfl, fun _ => rfl, fun _ => rfl, fun _ => rfl, fun _ => rfl, fun _ => rfl, fun _ => rfl, fun _ => rfl, fun _ => rfl, fun _ => rfl, fun _ => rfl, fun _ => rfl, fun _ => rfl, fun _ => h1.2.2.2.2, fun _ => rfl, trivial⟩) rfl cells_sz (.inl rfl) ?_
      refine (Qa)<|(Qa)<|Qn<|Qs<|Qp<|(Qm)<|(QN)<|(Qaf)<|Qn<|(Qcf)<|Qk<|Qp<|(Q2 1)<|(Qm)<|Qn ?_
      refine QzL ⟨i + 1, _, _, _, z.2.2, v9, rfl, rfl, rfl, by omega, (hs9 he), (by rw [← hz]; exact okS_tokR hf0_2 hf0_4), (hf0_3.trans (runR_next (by omega) (hz.trans (show z = (0, z.2.1, z.2.2) from Prod.ext he rfl)))), (by rw [← hz]; exact tokR_lt hf0_4), (by have := tokR_len (fi := fi) (ow := ow) (ps := ps) (t := q.getD i 0) (s := (y1, r1v, u1)) (b := bq); rw [hz] at this; omega)⟩ ⟨rfl, rfl, rfl, rfl, rfl, rfl, trivial⟩ ⟨rfl, rfl, trivial⟩ ?_
      omega
    · skip
      refine Qp<|(QD 0)<|(Qm)<|(Qm) ?_
      refine e_call rfl (Un 74) hc9 rfl rfl ?_
      refine (Qm)<|(Qx)<|(Qx)<|(Qx) ?_
      refine e_storeA (i := 0) (Uz 37) rfl rfl (arrv_size _ _) (cells_one ⟨fun _ => rfl, fun _ => rfl, fun _ => h1.1, fun _ => h1.2.1, fun _ => h1.2.2.1, fun _ => h1.2.2.2.1, fun _ => rfl, fun _ => rfl, fun _ => rfl, fun _ => rfl, fun _ => rfl, fun _ => rfl, fun _ => rfl, fun _ => rfl, fun _ => rfl, fun _ => rfl, fun _ => rfl, fun _ => rfl, fun _ => rfl, fun _ => rfl, fun _ => rfl, fun _ => h1.2.2.2.2, fun _ => rfl, trivial⟩) rfl cells_sz (.inl rfl) ?_
      refine (Qa)<|(Qa)<|Qn<|Qs<|Qp<|(Qm)<|(QN)<|(Qat)<|Qn<|(Qct) ?_
      obtain rfl := hst he
      refine Qs<|Qp<|(QD 0)<|(Qm) ?_
      refine e_storeA (i := 1) (Uz 37) rfl rfl (arrv_size _ _) (cells_one ⟨fun _ => rfl, fun _ => rfl, fun _ => h1.1, fun _ => h1.2.1, fun _ => h1.2.2.1, fun _ => h1.2.2.2.1, fun _ => rfl, fun _ => rfl, fun _ => rfl, fun _ => rfl, fun _ => rfl, fun _ => rfl, fun _ => rfl, fun _ => rfl, fun _ => rfl, fun _ => rfl, fun _ => rfl, fun _ => rfl, fun _ => rfl, fun _ => rfl, fun _ => rfl, fun _ => h1.2.2.2.2, fun _ => rfl, trivial⟩) rfl cells_sz (.inl rfl) ?_
      refine (Qa)<|(Qa)<|Qn<|Qr ?_
      exact ⟨_, _, _, _, _, 99, rfl, .cell (i := 1) rfl rfl (Uu 37) rfl (Uz 37) (arrv_size _ _), .tmp rfl, .tmp rfl, (own_fix (own_nil _ _) (by first | rfl | (rw [hen h0]; rfl)) (by first | rfl | (rw [hen h0]; rfl))), rfl⟩
  · intro hc0
    have hc0 := of_decide_eq_false hc0
    have hz0 : i = q.length := by omega
    have hrun := hf0_3.trans (run_endR hz0)
    obtain ⟨e2, he2⟩ : ∃ e, openP y1 bq = e := ⟨_, rfl⟩
    have hfin : w = (e2.1, (e2.2.1, r1v, u1), e2.2.2) := by rw [← hw]; exact turnR_fin hrun he2
    have hel : e2.2.2.length ≤ bq.length := by rw [← he2]; exact openP_len y1 bq
    have hen : e2.1 ≠ 0 → e2.2.2 = [] := fun h => by rw [← he2] at h ⊢; exact openP_nil h
    subst hfin
    refine Qe<|Qs ?_
    by_cases h0 : e2.1 = 0
    · skip
      refine QR ⟨[], 4, [], none⟩<|(QD 0)<|(Qm) ?_
      refine e_callN 2 (fun v => .tuple #[.agg (shC b l vp v0 v1 vt fi ((tq : Nat) : Int) dd e2.2.1 ow r1v vk ((u1 : Nat) : Int)), v, ii 0]) rfl rfl (Un 75) seenG (dshopen_ok hO b l vp v0 v1 vt fi ((tq : Nat) : Int) dd y1 r1v ow vk ((u1 : Nat) : Int) h1 hf0_2.1 wv bq hf0_1 hf0_4 e2 he2 hf0_5 h0) (by simp only [maxLen]; omega) (by rw [List.length_map, Nat.mul_one]) rfl rfl fun v3_1 oz3_1 ho3_1 => ?_
      refine (Qx)<|(Qx)<|(Qx) ?_
      refine e_storeA (i := 1) (Uz 37) rfl rfl (arrv_size _ _) (cells_one ⟨fun _ => rfl, fun _ => rfl, fun _ => h1.1, fun _ => h1.2.1, fun _ => h1.2.2.1, fun _ => h1.2.2.2.1, fun _ => rfl, fun _ => rfl, fun _ => rfl, fun _ => rfl, fun _ => rfl, fun _ => rfl, fun _ => rfl, fun _ => rfl, fun _ => rfl, fun _ => rfl, fun _ => rfl, fun _ => rfl, fun _ => rfl, fun _ => rfl, fun _ => rfl, fun _ => h1.2.2.2.2, fun _ => rfl, trivial⟩) rfl cells_sz (.inl rfl) ?_
      refine (Qa)<|(Qa) ?_
      refine e_as (show _ = ii e2.1 by rw [h0]; rfl) ?_
      refine Qn<|Qr ?_
      exact ⟨_, _, _, _, _, 2, rfl, .cell (i := 1) rfl rfl (Uu 37) rfl (Uz 37) (arrv_size _ _), .tmp rfl, .tmp rfl, (own_fix ho3_1 (by first | rfl | (rw [hen h0]; rfl)) (by first | rfl | (rw [hen h0]; rfl))), rfl⟩
    · skip
      refine Qp<|(QD 0)<|(Qm) ?_
      refine e_call rfl (Un 75) (dshopen_err hO b l vp v0 v1 vt fi ((tq : Nat) : Int) dd y1 r1v ow vk ((u1 : Nat) : Int) h1 hf0_2.1 wv bq hf0_1 hf0_4 e2 he2 h0) rfl rfl ?_
      refine (Qx)<|(Qx)<|(Qx) ?_
      refine e_storeA (i := 1) (Uz 37) rfl rfl (arrv_size _ _) (cells_one ⟨fun _ => rfl, fun _ => rfl, fun _ => h1.1, fun _ => h1.2.1, fun _ => h1.2.2.1, fun _ => h1.2.2.2.1, fun _ => rfl, fun _ => rfl, fun _ => rfl, fun _ => rfl, fun _ => rfl, fun _ => rfl, fun _ => rfl, fun _ => rfl, fun _ => rfl, fun _ => rfl, fun _ => rfl, fun _ => rfl, fun _ => rfl, fun _ => rfl, fun _ => rfl, fun _ => h1.2.2.2.2, fun _ => rfl, trivial⟩) rfl cells_sz (.inl rfl) ?_
      refine (Qa)<|(Qa)<|Qn<|Qr ?_
      exact ⟨_, _, _, _, _, 99, rfl, .cell (i := 1) rfl rfl (Uu 37) rfl (Uz 37) (arrv_size _ _), .tmp rfl, .tmp rfl, (own_fix (own_nil _ _) (by first | rfl | (rw [hen h0]; rfl)) (by first | rfl | (rw [hen h0]; rfl))), rfl⟩
end Go.Proofs.YthljakcegoohlaaGreatDoor
namespace Go.Proofs.YthljakcegoohlaaGreatDoor
open Go Go.RowKit
variable {G : Mem}
set_option maxRecDepth 20000 in
set_option maxHeartbeats 8000000 in
theorem read_no (b : List Nat) (l : Bool) (vp v0 v1 vt : Value) (fi : Bool) (tn : Int) (dd : Bool) (y : SY) (r : RS) (ow : Nat → Nat) (vk : Value) (us : Int) (ps : List (Nat → Nat)) (qs p0 p1 : List Int) (tvs : List Value) (ts : List (List Int)) (hk : Shows G 32 vk ps.length (psC ps)) (hvp : Shows G 1 vp qs.length (qs.map iv)) (hvt : Shows G 1 vt tvs.length tvs) (hLI : ShowsLI G (v0 :: v1 :: tvs) (p0 :: p1 :: ts)) (zk : ps.length * 32 ≤ 140737488355328) (zp : qs.length * 8 ≤ 140737488355328) (zt : tvs.length * 24 ≤ 140737488355328) (zl : ∀ q ∈ p0 :: p1 :: ts, q.length * 8 ≤ 140737488355328) (vx : Value) (hm : mayP dd tn ts.length us (!fi) l (pfault l p0 p1 ts) = false) : Fx Tryz.prog G [] 14 #[.agg (shC b l vp v0 v1 vt fi tn dd y ow r vk us), vx] (fun v l1 nw => l1 = [] ∧ WrIs b l qs p0 p1 ts ps fi tn dd y ow r us 9 [] v nw) := by
  refine fxD3 (n := 38) Tryz.func14 rfl rfl (by simp) (argE [.agg (shC b l vp v0 v1 vt fi tn dd y ow r vk us), vx] 0) (argE_ok _) ?_
  refine Qs<|Qp<|(Qh 0) fun r1=>(QH 1) fun r2=>(Qa)<|(Qa)<|Qn<|Qs<|QR ⟨[], 4, [], none⟩<|(QD 0) ?_
  refine e_callD [(0, _), (1, _)] (by repeat (first | exact bag_nil | exact bag_lab _ | apply bag_skip rfl)) ⟨rfl, rfl, trivial⟩ rfl rfl rfl (Un 37) seenG (copied_fn b l vp v0 v1 vt fi tn dd y r ow vk us ps qs p0 p1 tvs ts hk hvp hvt hLI zk zp zt zl) (copy_room b l qs p0 p1 ts ps fi tn dd y ow r us) rfl rfl fun v1_1 nw1_1 hD1_1 => ?_
  simp only [catL]
  obtain ⟨uP, a0, a1, uT, uK, xs, rfl, sP, sT, sL, sK, h1⟩ := hD1_1
  have hxl : xs.length = ts.length := (li_tail (li_tail sL)).1
  refine e_storeA (i := 0) (Uz 37) rfl rfl (arrv_size _ _) (cells_one ⟨fun _ => rfl, fun _ => rfl, fun _ => h1.1, fun _ => h1.2.1, fun _ => h1.2.2.1, fun _ => h1.2.2.2.1, fun _ => rfl, fun _ => rfl, fun _ => rfl, fun _ => rfl, fun _ => rfl, fun _ => rfl, fun _ => rfl, fun _ => rfl, fun _ => rfl, fun _ => rfl, fun _ => rfl, fun _ => rfl, fun _ => rfl, fun _ => rfl, fun _ => rfl, fun _ => h1.2.2.2.2, fun _ => rfl, trivial⟩) rfl cells_sz (.inl rfl) ?_
  refine Qn<|Qs<|Qs<|Qp<|(QD 0)<|(Qf 6)<|(QV 6 0)<|(Q0) ?_
  refine e_callS rfl rfl (Un 38) (seen_bag (by repeat (first | exact bag_nil | exact bag_lab _ | apply bag_skip rfl)) rfl) (mayTurn_fn b l uP a0 a1 uT fi tn dd y r ow uK us (!fi) p0 p1 xs ts sT sL) rfl rfl ?_
  refine e_as (show _ = Value.bool false by rw [hxl, hm]) ?_
  refine (Q0)<|Qn<|(Qct)<|Qs<|Qp<|(QD 0) ?_
  refine e_storeA (i := 1) (Uz 37) rfl rfl (arrv_size _ _) (cells_one ⟨fun _ => rfl, fun _ => rfl, fun _ => h1.1, fun _ => h1.2.1, fun _ => h1.2.2.1, fun _ => h1.2.2.2.1, fun _ => rfl, fun _ => rfl, fun _ => rfl, fun _ => rfl, fun _ => rfl, fun _ => rfl, fun _ => rfl, fun _ => rfl, fun _ => rfl, fun _ => rfl, fun _ => rfl, fun _ => rfl, fun _ => rfl, fun _ => rfl, fun _ => rfl, fun _ => h1.2.2.2.2, fun _ => rfl, trivial⟩) rfl cells_sz (.inl rfl) ?_
  refine (Qa)<|(Qa)<|Qn<|Qr ?_
  exact ⟨_, _, _, _, _, _, ([] ++ nw1_1), rfl, .cell (i := 1) rfl rfl (Uu 37) rfl (Uz 37) (arrv_size _ _), .tmp rfl, .tmp rfl, ⟨_, nilS, rfl, ⟨uP, a0, a1, uT, uK, xs, rfl, sP, sT, sL, sK, h1⟩, shows_nil _ 1⟩, (by repeat (first | exact bag_nil | exact bag_lab _ | apply bag_skip rfl))⟩
set_option maxRecDepth 20000 in
set_option maxHeartbeats 8000000 in
theorem read_ok (b : List Nat) (l : Bool) (vp v0 v1 vt : Value) (fi : Bool) (tq : Nat) (dd : Bool) (y : SY) (r : RS) (ow : Nat → Nat) (vk : Value) (us : Nat) (ps : List (Nat → Nat)) (qs p0 p1 : List Int) (tvs : List Value) (ts : List (List Int)) (hk : Shows G 32 vk ps.length (psC ps)) (hvp : Shows G 1 vp qs.length (qs.map iv)) (hvt : Shows G 1 vt tvs.length tvs) (hLI : ShowsLI G (v0 :: v1 :: tvs) (p0 :: p1 :: ts)) (zk : ps.length * 32 ≤ 140737488355328) (zp : qs.length * 8 ≤ 140737488355328) (zt : tvs.length * 24 ≤ 140737488355328) (zl : ∀ q ∈ p0 :: p1 :: ts, q.length * 8 ≤ 140737488355328) (hO : DOR ∈ G) (hp : okP ps) (hy : okY y) (hr : okR r) (ho : B32 ow) (vx : Value) (tx : List Nat) (hvt9 : Sh G vx tx) (htb : ∀ b ∈ tx, b < 256) (q : List Nat) (hqe : ts.getD tq [] = ci q) (hq7 : ∀ x ∈ q, 1 ≤ x ∧ x ≤ 7) (hq6 : q.length ≤ 6) (htl : tq < ts.length) (htz : tq < 1000000) (hm : mayP dd ((tq : Nat) : Int) ts.length ((us : Nat) : Int) (!fi) l (pfault l p0 p1 ts) = true) (hlt : tx.length ≤ 800) (w : Nat × SS × List Nat) (hw : turnR fi ow ps q (y, r, us) tx = w) (h0 : w.1 = 0) : Fx Tryz.prog G [] 14 #[.agg (shC b l vp v0 v1 vt fi ((tq : Nat) : Int) dd y ow r vk ((us : Nat) : Int)), vx] (fun v l1 nw => l1 = [] ∧ WrIs b l qs p0 p1 ts ps fi ((tq + 1 : Nat) : Int) dd w.2.1.1 ow w.2.1.2.1 ((w.2.1.2.2 : Nat) : Int) 0 w.2.2 v nw) := by
  have hwl : w.2.2.length ≤ 1000 := by rw [← hw]; have := turnR_len (fi := fi) (ow := ow) (ps := ps) q (y, r, us) tx; omega
  have _u1 := htz
  refine fxD3 (n := 38) Tryz.func14 rfl rfl (by simp) (argE [.agg (shC b l vp v0 v1 vt fi ((tq : Nat) : Int) dd y ow r vk ((us : Nat) : Int)), vx] 0) (argE_ok _) ?_
  refine Qs<|Qp<|(Qh 0) fun r1=>(QH 1) fun r2=>(Qa)<|(Qa)<|Qn<|Qs<|QR ⟨[], 4, [], none⟩<|(QD 0) ?_
  refine e_callD [(0, _), (1, _)] (by repeat (first | exact bag_nil | exact bag_lab _ | apply bag_skip rfl)) ⟨rfl, rfl, trivial⟩ rfl rfl rfl (Un 37) seenG (copied_fn b l vp v0 v1 vt fi ((tq : Nat) : Int) dd y r ow vk ((us : Nat) : Int) ps qs p0 p1 tvs ts hk hvp hvt hLI zk zp zt zl) (copy_room b l qs p0 p1 ts ps fi ((tq : Nat) : Int) dd y ow r ((us : Nat) : Int)) rfl rfl fun v1_1 nw1_1 hD1_1 => ?_
  simp only [catL]
  obtain ⟨uP, a0, a1, uT, uK, xs, rfl, sP, sT, sL, sK, h1⟩ := hD1_1
  have hxl : xs.length = ts.length := (li_tail (li_tail sL)).1
  refine e_storeA (i := 0) (Uz 37) rfl rfl (arrv_size _ _) (cells_one ⟨fun _ => rfl, fun _ => rfl, fun _ => h1.1, fun _ => h1.2.1, fun _ => h1.2.2.1, fun _ => h1.2.2.2.1, fun _ => rfl, fun _ => rfl, fun _ => rfl, fun _ => rfl, fun _ => rfl, fun _ => rfl, fun _ => rfl, fun _ => rfl, fun _ => rfl, fun _ => rfl, fun _ => rfl, fun _ => rfl, fun _ => rfl, fun _ => rfl, fun _ => rfl, fun _ => h1.2.2.2.2, fun _ => rfl, trivial⟩) rfl cells_sz (.inl rfl) ?_
  refine Qn<|Qs<|Qs<|Qp<|(QD 0)<|(Qf 6)<|(QV 6 0)<|(Q0) ?_
  refine e_callS rfl rfl (Un 38) (seen_bag (by repeat (first | exact bag_nil | exact bag_lab _ | apply bag_skip rfl)) rfl) (mayTurn_fn b l uP a0 a1 uT fi ((tq : Nat) : Int) dd y r ow uK ((us : Nat) : Int) (!fi) p0 p1 xs ts sT sL) rfl rfl ?_
  refine e_as (show _ = Value.bool true by rw [hxl, hm]) ?_
  refine (Q0)<|Qn<|(Qcf)<|Qk<|Qs<|Qs<|Qp<|(Qm)<|(QC hvt9)<|(QG)<|Qn ?_
  refine e_cond rfl ?_ ?_
  · intro hc1
    exact absurd (of_decide_eq_true hc1) (by omega)
  · intro hc1
    refine Qk<|Qs<|QR ⟨[], 4, [], none⟩<|(QD 0)<|(Qm) ?_
    refine e_callN 2 (fun v => .tuple #[.agg (shC b l uP a0 a1 uT fi ((tq : Nat) : Int) dd w.2.1.1 ow w.2.1.2.1 uK ((w.2.1.2.2 : Nat) : Int)), v, ii w.1]) rfl rfl (Un 46) (seen_app seenG (seen_bag (by repeat (first | exact bag_nil | exact bag_lab _ | apply bag_skip rfl)) rfl)) (heard_fn (G := G ++ nw1_1) (List.mem_append_left _ hO) b l uP a0 a1 uT fi tq dd y r ow uK us ps (sK.mono (fun x hx => List.mem_append_right _ hx)) hp h1 hy hr ho q xs (sT.mono (fun x hx => List.mem_append_right _ hx)) (by omega) ((li_row (li_tail (li_tail sL)) htl hqe).mono (fun x hx => List.mem_append_right _ hx)) hq7 hq6 vx tx (hvt9.mono (fun x hx => List.mem_append_left _ hx)) htb (by omega) w hw) (by simp only [maxLen]; omega) (by rw [List.length_map, Nat.mul_one]) rfl rfl fun v3_2 oz3_2 ho3_2 => ?_
    refine (Qm)<|(Qx)<|(Qx)<|(Qx)<|(QH 3) fun r4=>?_
    refine e_storeA (i := 3) (Uz 37) rfl rfl (arrv_size _ _) (cells_one ⟨fun _ => rfl, fun _ => rfl, fun _ => h1.1, fun _ => h1.2.1, fun _ => h1.2.2.1, fun _ => h1.2.2.2.1, fun _ => rfl, fun _ => rfl, fun _ => rfl, fun _ => rfl, fun _ => rfl, fun _ => rfl, fun _ => rfl, fun _ => rfl, fun _ => rfl, fun _ => rfl, fun _ => rfl, fun _ => rfl, fun _ => rfl, fun _ => rfl, fun _ => rfl, fun _ => h1.2.2.2.2, fun _ => rfl, trivial⟩) rfl cells_sz (.inl rfl) ?_
    refine (Qa)<|(Qa)<|Qn<|Qs<|Qp<|(QD 0)<|(QD 3)<|(Qm)<|(Qm) ?_
    refine e_call rfl (Un 40) (over_ok b l uP a0 a1 uT fi tq dd y r ow uK ((us : Nat) : Int) w.2.1.1 w.2.1.2.1 ((w.2.1.2.2 : Nat) : Int) _ w.1 h1 h0 htz) rfl rfl ?_
    refine e_freeze 2 [(0, _), (1, _), (3, _)] rfl rfl (by repeat (first | exact bag_nil | exact bag_lab _ | apply bag_skip rfl)) ⟨rfl, rfl, rfl, trivial⟩ rfl rfl ?_
    simp only [catL]
    refine (Qx)<|(Qx)<|(Qx) ?_
    refine e_storeA (i := 1) (Uz 37) rfl rfl (arrv_size _ _) (cells_one ⟨fun _ => rfl, fun _ => rfl, fun _ => h1.1, fun _ => h1.2.1, fun _ => h1.2.2.1, fun _ => h1.2.2.2.1, fun _ => rfl, fun _ => rfl, fun _ => rfl, fun _ => rfl, fun _ => rfl, fun _ => rfl, fun _ => rfl, fun _ => rfl, fun _ => rfl, fun _ => rfl, fun _ => rfl, fun _ => rfl, fun _ => rfl, fun _ => rfl, fun _ => rfl, fun _ => h1.2.2.2.2, fun _ => rfl, trivial⟩) rfl cells_sz (.inl rfl) ?_
    refine (Qa)<|(Qa)<|Qn<|Qr ?_
    exact ⟨_, _, _, _, _, _, (([] ++ nw1_1) ++ oz3_2.toList), rfl, .cell (i := 1) rfl rfl (Uu 37) rfl (Uz 37) (arrv_size _ _), .tmp rfl, .tmp rfl, ⟨_, _, rfl, copy_mono ⟨uP, a0, a1, uT, uK, xs, rfl, sP, sT, sL, sK, h1⟩ (fun x hx => List.mem_append_left _ hx), ho3_2.shows.mono (fun x hx => List.mem_append_right _ hx)⟩, (by repeat (first | exact bag_nil | exact bag_lab _ | apply bag_skip rfl))⟩
set_option maxRecDepth 20000 in
set_option maxHeartbeats 8000000 in
theorem read_err (b : List Nat) (l : Bool) (vp v0 v1 vt : Value) (fi : Bool) (tq : Nat) (dd : Bool) (y : SY) (r : RS) (ow : Nat → Nat) (vk : Value) (us : Nat) (ps : List (Nat → Nat)) (qs p0 p1 : List Int) (tvs : List Value) (ts : List (List Int)) (hk : Shows G 32 vk ps.length (psC ps)) (hvp : Shows G 1 vp qs.length (qs.map iv)) (hvt : Shows G 1 vt tvs.length tvs) (hLI : ShowsLI G (v0 :: v1 :: tvs) (p0 :: p1 :: ts)) (zk : ps.length * 32 ≤ 140737488355328) (zp : qs.length * 8 ≤ 140737488355328) (zt : tvs.length * 24 ≤ 140737488355328) (zl : ∀ q ∈ p0 :: p1 :: ts, q.length * 8 ≤ 140737488355328) (hO : DOR ∈ G) (hp : okP ps) (hy : okY y) (hr : okR r) (ho : B32 ow) (vx : Value) (tx : List Nat) (hvt9 : Sh G vx tx) (htb : ∀ b ∈ tx, b < 256) (q : List Nat) (hqe : ts.getD tq [] = ci q) (hq7 : ∀ x ∈ q, 1 ≤ x ∧ x ≤ 7) (hq6 : q.length ≤ 6) (htl : tq < ts.length) (htz : tq < 1000000) (hm : mayP dd ((tq : Nat) : Int) ts.length ((us : Nat) : Int) (!fi) l (pfault l p0 p1 ts) = true) (hlt : tx.length ≤ 800) (w : Nat × SS × List Nat) (hw : turnR fi ow ps q (y, r, us) tx = w) (h0 : w.1 ≠ 0) : Fx Tryz.prog G [] 14 #[.agg (shC b l vp v0 v1 vt fi ((tq : Nat) : Int) dd y ow r vk ((us : Nat) : Int)), vx] (fun v l1 nw => l1 = [] ∧ WrIs b l qs p0 p1 ts ps fi ((tq : Nat) : Int) true y ow r ((us : Nat) : Int) w.1 [] v nw) := by
  have hwl : w.2.2.length ≤ 1000 := by rw [← hw]; have := turnR_len (fi := fi) (ow := ow) (ps := ps) q (y, r, us) tx; omega
  have _u1 := htz
  refine fxD3 (n := 38) Tryz.func14 rfl rfl (by simp) (argE [.agg (shC b l vp v0 v1 vt fi ((tq : Nat) : Int) dd y ow r vk ((us : Nat) : Int)), vx] 0) (argE_ok _) ?_
  refine Qs<|Qp<|(Qh 0) fun r1=>(QH 1) fun r2=>(Qa)<|(Qa)<|Qn<|Qs<|QR ⟨[], 4, [], none⟩<|(QD 0) ?_
  refine e_callD [(0, _), (1, _)] (by repeat (first | exact bag_nil | exact bag_lab _ | apply bag_skip rfl)) ⟨rfl, rfl, trivial⟩ rfl rfl rfl (Un 37) seenG (copied_fn b l vp v0 v1 vt fi ((tq : Nat) : Int) dd y r ow vk ((us : Nat) : Int) ps qs p0 p1 tvs ts hk hvp hvt hLI zk zp zt zl) (copy_room b l qs p0 p1 ts ps fi ((tq : Nat) : Int) dd y ow r ((us : Nat) : Int)) rfl rfl fun v1_1 nw1_1 hD1_1 => ?_
  simp only [catL]
  obtain ⟨uP, a0, a1, uT, uK, xs, rfl, sP, sT, sL, sK, h1⟩ := hD1_1
  have hxl : xs.length = ts.length := (li_tail (li_tail sL)).1
  refine e_storeA (i := 0) (Uz 37) rfl rfl (arrv_size _ _) (cells_one ⟨fun _ => rfl, fun _ => rfl, fun _ => h1.1, fun _ => h1.2.1, fun _ => h1.2.2.1, fun _ => h1.2.2.2.1, fun _ => rfl, fun _ => rfl, fun _ => rfl, fun _ => rfl, fun _ => rfl, fun _ => rfl, fun _ => rfl, fun _ => rfl, fun _ => rfl, fun _ => rfl, fun _ => rfl, fun _ => rfl, fun _ => rfl, fun _ => rfl, fun _ => rfl, fun _ => h1.2.2.2.2, fun _ => rfl, trivial⟩) rfl cells_sz (.inl rfl) ?_
  refine Qn<|Qs<|Qs<|Qp<|(QD 0)<|(Qf 6)<|(QV 6 0)<|(Q0) ?_
  refine e_callS rfl rfl (Un 38) (seen_bag (by repeat (first | exact bag_nil | exact bag_lab _ | apply bag_skip rfl)) rfl) (mayTurn_fn b l uP a0 a1 uT fi ((tq : Nat) : Int) dd y r ow uK ((us : Nat) : Int) (!fi) p0 p1 xs ts sT sL) rfl rfl ?_
  refine e_as (show _ = Value.bool true by rw [hxl, hm]) ?_
  refine (Q0)<|Qn<|(Qcf)<|Qk<|Qs<|Qs<|Qp<|(Qm)<|(QC hvt9)<|(QG)<|Qn ?_
  refine e_cond rfl ?_ ?_
  · intro hc1
    exact absurd (of_decide_eq_true hc1) (by omega)
  · intro hc1
    refine Qk<|Qs<|QR ⟨[], 4, [], none⟩<|(QD 0)<|(Qm) ?_
    refine e_callN 2 (fun v => .tuple #[.agg (shC b l uP a0 a1 uT fi ((tq : Nat) : Int) dd w.2.1.1 ow w.2.1.2.1 uK ((w.2.1.2.2 : Nat) : Int)), v, ii w.1]) rfl rfl (Un 46) (seen_app seenG (seen_bag (by repeat (first | exact bag_nil | exact bag_lab _ | apply bag_skip rfl)) rfl)) (heard_fn (G := G ++ nw1_1) (List.mem_append_left _ hO) b l uP a0 a1 uT fi tq dd y r ow uK us ps (sK.mono (fun x hx => List.mem_append_right _ hx)) hp h1 hy hr ho q xs (sT.mono (fun x hx => List.mem_append_right _ hx)) (by omega) ((li_row (li_tail (li_tail sL)) htl hqe).mono (fun x hx => List.mem_append_right _ hx)) hq7 hq6 vx tx (hvt9.mono (fun x hx => List.mem_append_left _ hx)) htb (by omega) w hw) (by simp only [maxLen]; omega) (by rw [List.length_map, Nat.mul_one]) rfl rfl fun v3_2 oz3_2 ho3_2 => ?_
    refine (Qm)<|(Qx)<|(Qx)<|(Qx)<|(QH 3) fun r4=>?_
    refine e_storeA (i := 3) (Uz 37) rfl rfl (arrv_size _ _) (cells_one ⟨fun _ => rfl, fun _ => rfl, fun _ => h1.1, fun _ => h1.2.1, fun _ => h1.2.2.1, fun _ => h1.2.2.2.1, fun _ => rfl, fun _ => rfl, fun _ => rfl, fun _ => rfl, fun _ => rfl, fun _ => rfl, fun _ => rfl, fun _ => rfl, fun _ => rfl, fun _ => rfl, fun _ => rfl, fun _ => rfl, fun _ => rfl, fun _ => rfl, fun _ => rfl, fun _ => h1.2.2.2.2, fun _ => rfl, trivial⟩) rfl cells_sz (.inl rfl) ?_
    refine (Qa)<|(Qa)<|Qn<|Qs<|Qp<|(QD 0)<|(QD 3)<|(Qm)<|(Qm) ?_
    refine e_call rfl (Un 40) (over_err b l uP a0 a1 uT fi ((tq : Nat) : Int) dd y r ow uK ((us : Nat) : Int) w.2.1.1 w.2.1.2.1 ((w.2.1.2.2 : Nat) : Int) _ w.1 h1 h0) rfl rfl ?_
    refine (Qx)<|(Qx)<|(Qx) ?_
    refine e_storeA (i := 1) (Uz 37) rfl rfl (arrv_size _ _) (cells_one ⟨fun _ => rfl, fun _ => rfl, fun _ => h1.1, fun _ => h1.2.1, fun _ => h1.2.2.1, fun _ => h1.2.2.2.1, fun _ => rfl, fun _ => rfl, fun _ => rfl, fun _ => rfl, fun _ => rfl, fun _ => rfl, fun _ => rfl, fun _ => rfl, fun _ => rfl, fun _ => rfl, fun _ => rfl, fun _ => rfl, fun _ => rfl, fun _ => rfl, fun _ => rfl, fun _ => h1.2.2.2.2, fun _ => rfl, trivial⟩) rfl cells_sz (.inl rfl) ?_
    refine (Qa)<|(Qa)<|Qn<|Qr ?_
    exact ⟨_, _, _, _, _, _, ([] ++ nw1_1), rfl, .cell (i := 1) rfl rfl (Uu 37) rfl (Uz 37) (arrv_size _ _), .tmp rfl, .tmp rfl, ⟨_, nilS, rfl, ⟨uP, a0, a1, uT, uK, xs, rfl, sP, sT, sL, sK, h1⟩, shows_nil _ 1⟩, (by repeat (first | exact bag_nil | exact bag_lab _ | apply bag_skip rfl))⟩
end Go.Proofs.YthljakcegoohlaaGreatDoor
namespace Go.Proofs.YthljakcegoohlaaGreatDoor
open Go Go.RowKit
variable {G : Mem}
set_option maxHeartbeats 2000000 in
theorem done_fn (b : List Nat) (l : Bool) (vp v0 v1 vt : Value) (fi : Bool) (tn : Int) (dd : Bool) (y : SY) (r : RS) (ow : Nat → Nat) (vk : Value) (us : Int) (tvs : List Value) (hvt : Shows G 1 vt tvs.length tvs) : Fn Tryz.prog G 21 #[.agg (shC b l vp v0 v1 vt fi tn dd y ow r vk us)] (.bool (doneP dd tvs.length tn)) := by
  refine Qf1 Tryz.func21 ?_
  refine Qs<|Qp<|(Qh 0) fun r1=>(Qa)<|Qn<|Qs<|Qp ?_
  refine e_join [(0, _), (1, _)] [(2, .bool (doneP dd tvs.length tn))] [(0, some _)] ⟨rfl, rfl, trivial⟩ ⟨rfl, trivial⟩ ?_ ?_
  · skip
    refine (Qf 8)<|(QV 8 0)<|(Q0)<|(Qm) ?_
    refine e_case (b := (!dd)) (fun hb0 => ?_) (fun hb0 => ?_)
    · skip
      refine (Qy)<|(Qf 7)<|(Qy)<|(QV 7 0)<|(Qy)<|(Qf 0)<|(Qy)<|(Qf 5)<|(Qy)<|(QV 5 0)<|(Qy)<|(QC hvt)<|(Qy)<|(QE)<|(QT)<|(Qa)<|Qn ?_
      exact ⟨⟨rfl, rfl, trivial⟩, ⟨bool_fin (by rw [doneP, hb0] <;> rfl), trivial⟩, ⟨rfl, trivial⟩⟩
    · skip
      refine (Qo)<|(Qo)<|(Qo)<|(Qo)<|(Qo)<|(Qo)<|(Qo)<|(QF)<|(Qa)<|Qn ?_
      exact ⟨⟨rfl, rfl, trivial⟩, ⟨bool_fin (by rw [doneP, hb0] <;> rfl), trivial⟩, ⟨rfl, trivial⟩⟩
  · simp only [catE]
    refine Qr ?_
    exact ⟨_, rfl, .tmp rfl⟩
end Go.Proofs.YthljakcegoohlaaGreatDoor
namespace Go.Proofs.YthljakcegoohlaaGreatDoor
open Go Go.RowKit
variable {G : Mem}
set_option maxHeartbeats 2000000 in
theorem split_no (b : List Nat) (l : Bool) (vp v0 v1 vt : Value) (fi : Bool) (tn : Int) (dd : Bool) (y : SY) (r : RS) (ow : Nat → Nat) (vk : Value) (us : Int) (tvs : List Value) (hvt : Shows G 1 vt tvs.length tvs) (hd : (doneP dd tvs.length tn) = false) : Fn Tryz.prog G 20 #[.agg (shC b l vp v0 v1 vt fi tn dd y ow r vk us)] (.tuple #[.agg (cells 68 [pV (.bool false), pI .u8 32 (fun _ => 0), pV (.int .u64 0), pV (.bool false), pI .u8 32 (fun _ => 0), pV (.int .u64 0)]), ii 9]) := by
  refine Qf2 Tryz.func20 ?_
  refine Qs<|Qp<|(Qh 0) fun r1=>(QH 1) fun r2=>(Qa)<|Qn<|Qs<|Qs<|Qp<|(QD 0) ?_
  refine e_call rfl (Un 21) (done_fn b l vp v0 v1 vt fi tn dd y r ow vk us tvs hvt) rfl rfl ?_
  refine e_as (congrArg Value.bool hd) ?_
  refine (Q0)<|Qn<|(Qct)<|Qs<|Qp ?_
  refine e_build0 (Ub 57 rfl) (Uu 57 rfl) sis33 rfl ?_
  refine e_storeA (i := 1) (Uz 57) rfl rfl (arrv_size _ _) (cells_one ⟨fun _ => rfl, fun _ => rfl, fun _ => rfl, fun _ => rfl, fun _ => rfl, fun _ => rfl, trivial⟩) rfl cells_sz (.inl rfl) ?_
  refine (Qa)<|Qn<|Qr ?_
  exact ⟨_, _, rfl, .cell (i := 1) rfl rfl (Uu 57) rfl (Uz 57) (arrv_size _ _), .tmp rfl⟩
end Go.Proofs.YthljakcegoohlaaGreatDoor
namespace Go.Proofs.YthljakcegoohlaaGreatDoor
open Go Go.RowKit
variable {G : Mem}
set_option maxRecDepth 20000 in
set_option maxHeartbeats 16000000 in
theorem shakeTurns_fn (hO : DOR ∈ G) (zn : Int) (a b c : Nat → Nat) (ha : B32 a) (hb : B32 b) (base : List Nat) (q0 q1 q9 : List Nat) (ut : List (List Nat)) (nm : List Nat) (hnb : ∀ x ∈ nm, x < 256) (hnl : nm.length ≤ 1000000) (hqq : q0.length ≤ 1000 ∧ q1.length ≤ 1000) (ht0 : ∀ x ∈ q0, x = 1 ∨ x = 2) (ht1 : ∀ x ∈ q1, x = 1 ∨ x = 2) (hq7 : ∀ x ∈ 1 :: q9, 1 ≤ x ∧ x ≤ 7) (hq6 : (1 :: q9).length ≤ 6) (hul : ut.length ≤ 10) (hpf : pfault false (ci q0) (ci q1) (((1 :: q9) :: ut).map ci) = 0) (hzl : ∀ q ∈ ci q0 :: ci q1 :: ((1 :: q9) :: ut).map ci, q.length * 8 ≤ 140737488355328) (hPO : Fx Tryz.prog G [] 16 #[.int .i64 zn, .int .i64 0] (fun w l1 nw => l1 = [] ∧ ∃ w', w = .tuple #[w', .bool true] ∧ PatIs2 base false [] q0 q1 ((1 :: q9) :: ut) w' nw)) (hSh : ∀ (X : Mem) (vp va vb vt : Value) (tv : List Value), Shows (G ++ X) 1 vt tv.length tv → ShowsLI (G ++ X) (vp :: va :: vb :: tv) ([] :: ci q0 :: ci q1 :: ((1 :: q9) :: ut).map ci) → Fn Tryz.prog (G ++ X) 50 #[.agg (patC base false vp va vb vt)] (.tuple #[sv nm, ii 0])) (hPar : ∀ X : Mem, Fx Tryz.prog (G ++ X) [] 24 #[sv nm] (fun v l1 nw => l1 = [] ∧ ∃ w', v = .tuple #[w', ii 0] ∧ PatIsI base false [] q0 q1 ((1 :: q9) :: ut) w' nw)) : Fn Tryz.prog G 7 #[.int .i64 zn, .agg (arr .u8 32 a), .agg (arr .u8 32 b), .agg (arr .u8 32 c)] (.bool true) := by
  have hthx : B32 (if 2 ∈ q1 then pubK b else fun _ => 0) := by split; exact pubK_lt b; exact zeros32
  have hthy : B32 (if 2 ∈ q0 then pubK a else fun _ => 0) := by split; exact pubK_lt a; exact zeros32
  obtain ⟨zx, hzx⟩ : ∃ z, aheadP true a (fun _ => 0) (npk []) q0 q1 ((hashP (begY nm) []), ((fun _ => 0), false, (if 2 ∈ q1 then pubK b else fun _ => 0), (decide (2 ∈ q1)), (fun _ => 0), false)) = z := ⟨_, rfl⟩
  obtain ⟨zy, hzy⟩ : ∃ z, aheadP false b (fun _ => 0) (npk []) q0 q1 ((hashP (begY nm) []), ((fun _ => 0), false, (if 2 ∈ q0 then pubK a else fun _ => 0), (decide (2 ∈ q0)), (fun _ => 0), false)) = z := ⟨_, rfl⟩
  have hzyo : okY zy.1 ∧ okR zy.2 := ok_ahead zeros32 ⟨okY_hash (okY_beg hnb) _, zeros32, hthy, zeros32⟩ hzy
  refine Qf1 Tryz.func7 ?_
  refine Qs<|Qp<|(Qh 0) fun r1=>(Qh 1) fun r2=>(Qh 2) fun r3=>(Qa)<|Qn<|Qs<|QR ⟨[], 4, [], none⟩<|(Qm) ?_
  refine e_callD [(0, _), (1, _), (2, _)] (by repeat (first | exact bag_nil | exact bag_lab _ | apply bag_skip rfl)) ⟨rfl, rfl, rfl, trivial⟩ rfl rfl rfl (Un 16) seenG hPO (pat_room3 base false [] q0 q1 ((1 :: q9) :: ut) (.bool true)) rfl rfl fun v1_1 nw1_1 hD1_1 => ?_
  simp only [catL]
  obtain ⟨_, rfl, vp, hvp, va, vb, vt, tv, rfl, hva, hvb, hvt, hvn, hvL⟩ := hD1_1
  refine (Qm)<|(Qx)<|(Qx)<|(QH 3) fun r4=>?_
  refine e_storeA (i := 3) (Uz 29) rfl rfl (arrv_size _ _) (catOkP (shows_oneC hvp) (shows_oneC hva) (shows_oneC hvb) (shows_oneC hvt)) rfl cells_sz (.inl rfl) ?_
  refine (Qa)<|Qn<|Qs<|QR ⟨[], 4, [], none⟩<|(QD 3)<|(Qd 0)<|(Qd 2) ?_
  refine e_buildS (arr .u8 64 (sdF a c)) (Ub 54 rfl) (Uu 54 rfl) pls54 rfl (by kernel_rfl) rfl ?_
  refine (Qd 1)<|(Qd 2) ?_
  refine e_buildS (arr .u8 64 (sdF b c)) (Ub 54 rfl) (Uu 54 rfl) pls54 rfl (by kernel_rfl) rfl ?_
  refine e_callD [(0, _), (1, _), (2, _), (3, _)] (by repeat (first | exact bag_nil | exact bag_lab _ | apply bag_skip rfl)) ⟨rfl, rfl, rfl, rfl, trivial⟩ rfl rfl rfl (Un 17) (seen_app seenG (seen_bag (by repeat (first | exact bag_nil | exact bag_lab _ | apply bag_skip rfl)) rfl)) (two_fn (G := G ++ ([] ++ nw1_1)) (List.mem_append_left _ hO) base false vp va vb vt a c b c ha hb nilS [] (shows_nil _ 32) nilS [] (shows_nil _ 1) (fun _ h => by cases h) (by decide) [] q0 q1 ((1 :: q9) :: ut) (hva.mono (fun x hx => by simp [hx])) (hvb.mono (fun x hx => by simp [hx])) rfl (by decide) hqq ht0 ht1 nm hnb hnl (hSh _ vp va vb vt tv (Shows.mono (show Shows nw1_1 1 vt tv.length tv by rw [hvn]; exact hvt) (fun x hx => by simp [hx])) (li_mono (li_cons9 hvp (li_app2 hva hvb hvL)) (fun x hx => by simp [hx]))) (hPar _) zx zy hzx hzy) (two_room base false [] q0 q1 ((1 :: q9) :: ut) [] a b zx zy) rfl rfl fun v1_2 nw1_2 hD1_2 => ?_
  simp only [catL]
  obtain ⟨_, _, rfl, ⟨P1, A1, B1, T1, K1, l1, rfl, hP1, hT1, hL1, hK1, h11⟩, ⟨P2, A2, B2, T2, K2, l2, rfl, hP2, hT2, hL2, hK2, h12⟩⟩ := hD1_2
  have xl1 : l1.length = ut.length + 1 := by have := hL1.1; simpa using this
  have xl2 : l2.length = ut.length + 1 := by have := hL2.1; simpa using this
  refine (Qm)<|(Qx)<|(Qx)<|(Qx)<|(QH 4) fun r5=>(QH 5) fun r6=>?_
  refine e_storeA (i := 4) (Uz 37) rfl rfl (arrv_size _ _) (cells_one ⟨fun _ => rfl, fun _ => rfl, fun _ => h11.1, fun _ => h11.2.1, fun _ => h11.2.2.1, fun _ => h11.2.2.2.1, fun _ => rfl, fun _ => rfl, fun _ => rfl, fun _ => rfl, fun _ => rfl, fun _ => rfl, fun _ => rfl, fun _ => rfl, fun _ => rfl, fun _ => rfl, fun _ => rfl, fun _ => rfl, fun _ => rfl, fun _ => rfl, fun _ => rfl, fun _ => h11.2.2.2.2, fun _ => rfl, trivial⟩) rfl cells_sz (.inl rfl) ?_
  refine e_storeA (i := 5) (Uz 37) rfl rfl (arrv_size _ _) (cells_one ⟨fun _ => rfl, fun _ => rfl, fun _ => h12.1, fun _ => h12.2.1, fun _ => h12.2.2.1, fun _ => h12.2.2.2.1, fun _ => rfl, fun _ => rfl, fun _ => rfl, fun _ => rfl, fun _ => rfl, fun _ => rfl, fun _ => rfl, fun _ => rfl, fun _ => rfl, fun _ => rfl, fun _ => rfl, fun _ => rfl, fun _ => rfl, fun _ => rfl, fun _ => rfl, fun _ => h12.2.2.2.2, fun _ => rfl, trivial⟩) rfl cells_sz (.inl rfl) ?_
  refine (Qa)<|Qn<|Qs<|Qs<|Qp<|(Qm)<|(Q0)<|(Qm)<|(Qy)<|(Qm)<|(Qy)<|(Q0)<|(QF)<|Qn<|(Qcf)<|Qk<|Qs<|(Qq ⟨[], 4, [], none⟩)<|(QD 4) ?_
  refine e_make 6 (l := 64) (Uu 22) (Uz 5) (Uy 5) (Ub 5) rfl rfl rfl (by omega) (by omega) rfl fun r7 => ?_
  refine e_callD [(0, _), (1, _), (2, _), (3, _), (4, _), (5, _), (6, _)] (by repeat (first | exact bag_nil | exact bag_lab _ | apply bag_skip rfl)) ⟨rfl, rfl, rfl, rfl, rfl, rfl, rfl, trivial⟩ rfl rfl rfl (Un 14) (seen_app seenG (seen_bag (by repeat (first | exact bag_nil | exact bag_lab _ | apply bag_skip rfl)) rfl)) (read_no (G := G ++ (([] ++ nw1_1) ++ nw1_2)) base false P1 A1 B1 T1 true 0 false zx.1 zx.2 a K1 0 [] [] (ci q0) (ci q1) l1 (((1 :: q9) :: ut).map ci) (hK1.mono (fun x hx => by simp [hx])) (hP1.mono (fun x hx => by simp [hx])) (hT1.mono (fun x hx => by simp [hx])) (li_mono hL1 (fun x hx => by simp [hx])) (by decide) (by decide) (by omega) hzl _ may_no) (wr_room base false [] (ci q0) (ci q1) (((1 :: q9) :: ut).map ci) [] true 0 false zx.1 a zx.2 0 9 []) rfl rfl fun v2_3 nw2_3 hD2_3 => ?_
  simp only [catL]
  obtain ⟨_, W3, rfl, ⟨P3, A3, B3, T3, K3, l3, rfl, hP3, hT3, hL3, hK3, h13⟩, hW3⟩ := hD2_3
  have xl3 : l3.length = ut.length + 1 := by have := hL3.1; simpa using this
  refine (Qm)<|(Qx)<|(Qx)<|(Qx)<|(QH 7) fun r8=>?_
  refine e_storeA (i := 7) (Uz 37) rfl rfl (arrv_size _ _) (cells_one ⟨fun _ => rfl, fun _ => rfl, fun _ => h13.1, fun _ => h13.2.1, fun _ => h13.2.2.1, fun _ => h13.2.2.2.1, fun _ => rfl, fun _ => rfl, fun _ => rfl, fun _ => rfl, fun _ => rfl, fun _ => rfl, fun _ => rfl, fun _ => rfl, fun _ => rfl, fun _ => rfl, fun _ => rfl, fun _ => rfl, fun _ => rfl, fun _ => rfl, fun _ => rfl, fun _ => h13.2.2.2.2, fun _ => rfl, trivial⟩) rfl cells_sz (.inl rfl) ?_
  refine (Qa)<|(Qa)<|Qn<|Qs<|QR ⟨[], 4, [], none⟩<|(QD 5)<|(Qd 2) ?_
  refine e_callD [(0, _), (1, _), (2, _), (3, _), (4, _), (5, _), (6, _), (7, _)] (by repeat (first | exact bag_nil | exact bag_lab _ | apply bag_skip rfl)) ⟨rfl, rfl, rfl, rfl, rfl, rfl, rfl, rfl, trivial⟩ rfl rfl rfl (Un 11) (seen_app seenG (seen_bag (by repeat (first | exact bag_nil | exact bag_lab _ | apply bag_skip rfl)) rfl)) (write_no (G := G ++ ((([] ++ nw1_1) ++ nw1_2) ++ nw2_3)) base false P2 A2 B2 T2 false 0 false zy.1 zy.2 b K2 0 [] [] (ci q0) (ci q1) l2 (((1 :: q9) :: ut).map ci) (hK2.mono (fun x hx => by simp [hx])) (hP2.mono (fun x hx => by simp [hx])) (hT2.mono (fun x hx => by simp [hx])) (li_mono hL2 (fun x hx => by simp [hx])) (by decide) (by decide) (by omega) hzl c nilS may_no) (wr_room base false [] (ci q0) (ci q1) (((1 :: q9) :: ut).map ci) [] false 0 false zy.1 b zy.2 0 9 []) rfl rfl fun v2_4 nw2_4 hD2_4 => ?_
  simp only [catL]
  obtain ⟨_, W4, rfl, ⟨P4, A4, B4, T4, K4, l4, rfl, hP4, hT4, hL4, hK4, h14⟩, hW4⟩ := hD2_4
  have xl4 : l4.length = ut.length + 1 := by have := hL4.1; simpa using this
  refine (Qm)<|(Qx)<|(Qx)<|(Qx)<|(QH 8) fun r9=>?_
  refine e_storeA (i := 8) (Uz 37) rfl rfl (arrv_size _ _) (cells_one ⟨fun _ => rfl, fun _ => rfl, fun _ => h14.1, fun _ => h14.2.1, fun _ => h14.2.2.1, fun _ => h14.2.2.2.1, fun _ => rfl, fun _ => rfl, fun _ => rfl, fun _ => rfl, fun _ => rfl, fun _ => rfl, fun _ => rfl, fun _ => rfl, fun _ => rfl, fun _ => rfl, fun _ => rfl, fun _ => rfl, fun _ => rfl, fun _ => rfl, fun _ => rfl, fun _ => h14.2.2.2.2, fun _ => rfl, trivial⟩) rfl cells_sz (.inl rfl) ?_
  refine (Qa)<|(Qa)<|Qn<|Qs<|(Qq ⟨[], 4, [], none⟩)<|(QD 5) ?_
  refine e_make 9 (l := 31) (Uu 22) (Uz 5) (Uy 5) (Ub 5) rfl rfl rfl (by omega) (by omega) rfl fun r10 => ?_
  refine e_callD [(0, _), (1, _), (2, _), (3, _), (4, _), (5, _), (6, _), (7, _), (8, _), (9, _)] (by repeat (first | exact bag_nil | exact bag_lab _ | apply bag_skip rfl)) ⟨rfl, rfl, rfl, rfl, rfl, rfl, rfl, rfl, rfl, rfl, trivial⟩ rfl rfl rfl (Un 14) (seen_app seenG (seen_app (seen_bag (by repeat (first | exact bag_nil | exact bag_lab _ | apply bag_skip rfl)) rfl) (seen1 9 rfl ⟨[], trivial⟩))) (read_err (G := G ++ ((((([] ++ nw1_1) ++ nw1_2) ++ nw2_3) ++ nw2_4) ++ [(⟨r10, arr .u8 31 (fun _ => 0), 5⟩ : Blk)])) base false P2 A2 B2 T2 false 0 false zy.1 zy.2 b K2 0 [] [] (ci q0) (ci q1) l2 (((1 :: q9) :: ut).map ci) (hK2.mono (fun x hx => by simp [hx])) (hP2.mono (fun x hx => by simp [hx])) (hT2.mono (fun x hx => by simp [hx])) (li_mono hL2 (fun x hx => by simp [hx])) (by decide) (by decide) (by omega) hzl (List.mem_append_left _ hO) ⟨fun _ h => (by cases h), (by decide)⟩ hzyo.1 hzyo.2 hb _ (List.replicate 31 0) (Shows.mono (show Shows [(⟨r10, arr .u8 31 (fun _ => 0), 5⟩ : Blk)] 1 (.slice (some ⟨r10, 0, none⟩) 31 31) (List.replicate 31 0).length ((List.replicate 31 0).map by8) from shows_31 r10) (fun x hx => by simp [hx])) (fun x hx => by rw [List.eq_of_mem_replicate hx]; decide) (1 :: q9) rfl hq7 hq6 (by simp) (by decide) (may_yes (by simp) hpf) (by simp) (4, (zy.1, zy.2, 0), []) (turnR_short (by simp)) (show (4 : Nat) ≠ 0 by decide)) (wr_room base false [] (ci q0) (ci q1) (((1 :: q9) :: ut).map ci) [] false 0 true zy.1 b zy.2 0 4 []) rfl rfl fun v2_5 nw2_5 hD2_5 => ?_
  simp only [catL]
  obtain ⟨_, W5, rfl, ⟨P5, A5, B5, T5, K5, l5, rfl, hP5, hT5, hL5, hK5, h15⟩, hW5⟩ := hD2_5
  have xl5 : l5.length = ut.length + 1 := by have := hL5.1; simpa using this
  refine (Qm)<|(Qx)<|(Qx)<|(Qx)<|(QH 10) fun r11=>?_
  refine e_storeA (i := 10) (Uz 37) rfl rfl (arrv_size _ _) (cells_one ⟨fun _ => rfl, fun _ => rfl, fun _ => h15.1, fun _ => h15.2.1, fun _ => h15.2.2.1, fun _ => h15.2.2.2.1, fun _ => rfl, fun _ => rfl, fun _ => rfl, fun _ => rfl, fun _ => rfl, fun _ => rfl, fun _ => rfl, fun _ => rfl, fun _ => rfl, fun _ => rfl, fun _ => rfl, fun _ => rfl, fun _ => rfl, fun _ => rfl, fun _ => rfl, fun _ => h15.2.2.2.2, fun _ => rfl, trivial⟩) rfl cells_sz (.inl rfl) ?_
  refine (Qa)<|(Qa)<|Qn<|Qs<|(Qq ⟨[], 4, [], none⟩)<|(QD 10) ?_
  refine e_make 11 (l := 64) (Uu 22) (Uz 5) (Uy 5) (Ub 5) rfl rfl rfl (by omega) (by omega) rfl fun r12 => ?_
  refine e_callD [(0, _), (1, _), (2, _), (3, _), (4, _), (5, _), (6, _), (7, _), (8, _), (9, _), (10, _), (11, _)] (by repeat (first | exact bag_nil | exact bag_lab _ | apply bag_skip rfl)) ⟨rfl, rfl, rfl, rfl, rfl, rfl, rfl, rfl, rfl, rfl, rfl, rfl, trivial⟩ rfl rfl rfl (Un 14) (seen_app seenG (seen_bag (by repeat (first | exact bag_nil | exact bag_lab _ | apply bag_skip rfl)) rfl)) (read_no (G := G ++ ((((([] ++ nw1_1) ++ nw1_2) ++ nw2_3) ++ nw2_4) ++ nw2_5)) base false P5 A5 B5 T5 false 0 true zy.1 zy.2 b K5 0 [] [] (ci q0) (ci q1) l5 (((1 :: q9) :: ut).map ci) (hK5.mono (fun x hx => by simp [hx])) (hP5.mono (fun x hx => by simp [hx])) (hT5.mono (fun x hx => by simp [hx])) (li_mono hL5 (fun x hx => by simp [hx])) (by decide) (by decide) (by omega) hzl _ may_dead) (wr_room base false [] (ci q0) (ci q1) (((1 :: q9) :: ut).map ci) [] false 0 true zy.1 b zy.2 0 9 []) rfl rfl fun v2_6 nw2_6 hD2_6 => ?_
  simp only [catL]
  obtain ⟨_, W6, rfl, ⟨P6, A6, B6, T6, K6, l6, rfl, hP6, hT6, hL6, hK6, h16⟩, hW6⟩ := hD2_6
  have xl6 : l6.length = ut.length + 1 := by have := hL6.1; simpa using this
  refine (Qm)<|(Qx)<|(Qx)<|(Qx)<|(QH 12) fun r13=>?_
  refine e_storeA (i := 12) (Uz 37) rfl rfl (arrv_size _ _) (cells_one ⟨fun _ => rfl, fun _ => rfl, fun _ => h16.1, fun _ => h16.2.1, fun _ => h16.2.2.1, fun _ => h16.2.2.2.1, fun _ => rfl, fun _ => rfl, fun _ => rfl, fun _ => rfl, fun _ => rfl, fun _ => rfl, fun _ => rfl, fun _ => rfl, fun _ => rfl, fun _ => rfl, fun _ => rfl, fun _ => rfl, fun _ => rfl, fun _ => rfl, fun _ => rfl, fun _ => h16.2.2.2.2, fun _ => rfl, trivial⟩) rfl cells_sz (.inl rfl) ?_
  refine (Qa)<|(Qa)<|Qn<|Qs<|Qp<|(QD 4) ?_
  refine e_callS rfl rfl (Un 20) (seen_app seenG (seen_bag (by repeat (first | exact bag_nil | exact bag_lab _ | apply bag_skip rfl)) rfl)) (split_no (G := G ++ (((((([] ++ nw1_1) ++ nw1_2) ++ nw2_3) ++ nw2_4) ++ nw2_5) ++ nw2_6)) base false P1 A1 B1 T1 true 0 false zx.1 zx.2 a K1 0 l1 (hT1.mono (fun x hx => by simp [hx])) (done_not (by omega))) rfl rfl ?_
  refine (Qm)<|(Qx)<|(Qx)<|(QH 13) fun r14=>?_
  refine e_storeA (i := 13) (Uz 57) rfl rfl (arrv_size _ _) (cells_one ⟨fun _ => rfl, fun _ => rfl, fun _ => rfl, fun _ => rfl, fun _ => rfl, fun _ => rfl, trivial⟩) rfl cells_sz (.inl rfl) ?_
  refine (Qa)<|Qn<|Qs<|Qp<|(Qm)<|(Qc)<|(Qar)<|(Qm)<|(Qy)<|(Qm)<|(Qy)<|(Qc)<|(Qar)<|(QT)<|(Qm)<|(Qy)<|(Qm)<|(Qy)<|(Qc)<|(Qar)<|(QT)<|(Qm)<|(Qy)<|(Qm)<|(Qy)<|(Qc)<|(Qar)<|(QT)<|(Qm)<|(Qy)<|(Qm)<|(Qy)<|(Qc)<|(Qar)<|(QT)<|(Qm)<|(Qy)<|(Qf 7)<|(Qy)<|(QV 7 7) ?_
  refine e_as (show _ = ii 0 from rfl) ?_
  refine (Qy)<|(Qf 7)<|(Qy)<|(QV 7 4) ?_
  refine e_as (show _ = ii 0 from rfl) ?_
  refine (Qy)<|(Qc)<|(Qar)<|(QT)<|(Qm)<|(Qy)<|(Qf 9)<|(Qy) ?_
  refine e_ldK (i := 7) 9 5 (Uu 35 rfl) rfl (Uz 35 rfl) rfl rfl rfl rfl (by decide) rfl ⟨[], trivial⟩ ?_
  refine (Qy)<|(Qf 9)<|(Qy) ?_
  refine e_ldK (i := 4) 9 5 (Uu 35 rfl) rfl (Uz 35 rfl) rfl rfl rfl rfl (by decide) rfl ⟨[], trivial⟩ ?_
  refine (Qy) ?_
  refine e_eqSame sam35 eqg35 rfl rfl rfl ?_
  refine (QT)<|(Qm)<|(Qy)<|(Qf 8)<|(Qy)<|(QV 8 7)<|(Qy)<|(Q0)<|(QT)<|(Qm)<|(Qy)<|(Qf 7)<|(Qy)<|(QV 7 8)<|(Qy)<|(Qf 7)<|(Qy)<|(QV 7 5)<|(Qy)<|(Qc)<|(Qar)<|(QT)<|(Qm)<|(Qy)<|(Qf 9)<|(Qy) ?_
  refine e_ldK (i := 8) 9 5 (Uu 35 rfl) rfl (Uz 35 rfl) rfl rfl rfl rfl (by decide) rfl ⟨[], trivial⟩ ?_
  refine (Qy)<|(Qf 9)<|(Qy) ?_
  refine e_ldK (i := 5) 9 5 (Uu 35 rfl) rfl (Uz 35 rfl) rfl rfl rfl rfl (by decide) rfl ⟨[], trivial⟩ ?_
  refine (Qy) ?_
  refine e_eqSame sam35 eqg35 rfl rfl rfl ?_
  refine (QT)<|(Qm)<|(Qy)<|(Qf 8)<|(Qy)<|(QV 8 8)<|(Qy)<|(Q0)<|(QT)<|(Qm)<|(Qy)<|(Qf 8)<|(Qy)<|(QV 8 10)<|(QT)<|(Qm)<|(Qy)<|(QD 10)<|(Qy) ?_
  refine e_callS rfl rfl (Un 21) (seen_app seenG (seen_bag (by repeat (first | exact bag_nil | exact bag_lab _ | apply bag_skip rfl)) rfl)) (done_fn (G := G ++ (((((([] ++ nw1_1) ++ nw1_2) ++ nw2_3) ++ nw2_4) ++ nw2_5) ++ nw2_6)) base false P5 A5 B5 T5 false 0 true zy.1 zy.2 b K5 0 l5 (hT5.mono (fun x hx => by simp [hx]))) rfl rfl ?_
  refine e_as (congrArg Value.bool (show doneP true l5.length 0 = false from rfl)) ?_
  refine (Qy)<|(Q0)<|(QT)<|(Qa)<|Qn<|Qr ?_
  exact ⟨_, rfl, .tmp rfl⟩
end Go.Proofs.YthljakcegoohlaaGreatDoor
namespace Go.Proofs.YthljakcegoohlaaGreatDoor
open Go Go.RowKit
theorem xindex (l : List Nat) (c : Nat) (hl : ∀ b ∈ l, b < 256) (hc : c < 256) (w : World) : (callFunc 196 #[sv l, by8 c]).run Tryz.prog w = .ok (.value (ixv (ixb l c))) w := by
  rw [run_callFunc_extern Tryz.func196 (by kernel_rfl) (by kernel_rfl) (by kernel_rfl) (e := Extern.BytealgIndexByte.indexByte) (by kernel_rfl), Lib.run_indexByteString]
  have h := lib_index hl hc
  rw [← h]
  simp [bstr, Result.andThen]
variable {G : Mem}
set_option maxHeartbeats 400000 in
theorem ixbyte_fn (l : List Nat) (c : Nat) (hl : ∀ b ∈ l, b < 256) (hc : c < 256) : Fn Tryz.prog G 146 #[sv l, by8 c] (ixv (ixb l c)) := by
  refine Qf1 Tryz.func146 ?_
  refine Qs<|Qp<|(Qa)<|Qn<|Qs<|Qp<|(Qm)<|(Qm) ?_
  refine e_callE rfl (xindex l c hl hc) rfl rfl ?_
  refine (Qa)<|Qn<|Qr ?_
  exact ⟨_, rfl, .tmp rfl⟩
end Go.Proofs.YthljakcegoohlaaGreatDoor
namespace Go.Proofs.YthljakcegoohlaaGreatDoor
open Go Go.RowKit
variable {G : Mem}
end Go.Proofs.YthljakcegoohlaaGreatDoor
namespace Go.Proofs.YthljakcegoohlaaGreatDoor
open Go Go.RowKit
variable {G : Mem}
set_option maxHeartbeats 400000 in
theorem haspre_fn (l p : List Nat) (hl : ∀ b ∈ l, b < 256) (hp : ∀ b ∈ p, b < 256) : Fn Tryz.prog G 190 #[sv l, sv p] (.bool (hasP l p)) := by
  refine Qf1 Tryz.func190 ?_
  refine Qs<|Qp<|(Qa)<|Qn<|Qs<|Qp ?_
  refine e_join [(0, _), (1, _)] [(4, .bool (hasP l p))] [] ⟨rfl, rfl, trivial⟩ trivial ?_ ?_
  · skip
    refine (Qm)<|(QU)<|(Qm)<|(QU)<|(QE)<|(Qm) ?_
    refine e_case (b := decide ((p.length : Int) ≤ (l.length : Int))) (fun hb0 => ?_) (fun hb0 => ?_)
    · skip
      refine (Qy)<|(Qm)<|(Qy)<|(Qm)<|(Qy)<|(QU)<|(Qy) ?_
      refine e_sliceStr 0 p.length (Uu 9) rfl rfl rfl rfl ⟨_, rfl⟩ (by omega) (by have := of_decide_eq_true hb0; omega) rfl ?_
      refine e_as (show _ = sv (l.take p.length) from rfl) ?_
      refine (Qy)<|(Qm)<|(Qy) ?_
      refine e_eqStr rfl rfl rfl (fun b hb => hl b (List.mem_of_mem_take hb)) hp ?_
      refine (QT)<|(Qa)<|Qn ?_
      exact ⟨⟨rfl, rfl, trivial⟩, ⟨bool_fin (by rw [hasP, hb0] <;> rfl), trivial⟩, trivial⟩
    · skip
      refine (Qo)<|(Qo)<|(Qo)<|(Qo)<|(Qo)<|(Qo)<|(QF)<|(Qa)<|Qn ?_
      exact ⟨⟨rfl, rfl, trivial⟩, ⟨bool_fin (by rw [hasP, hb0] <;> rfl), trivial⟩, trivial⟩
  · simp only [catE]
    refine Qr ?_
    exact ⟨_, rfl, .tmp rfl⟩
set_option maxHeartbeats 400000 in
theorem hassufZ_fn (l p : List Nat) (hl : ∀ b ∈ l, b < 256) (hp : ∀ b ∈ p, b < 256) (hz : l.length ≤ 4294967296) : Fn Tryz.prog G 191 #[sv l, sv p] (.bool (hasZ l p)) := by
  refine Qf1 Tryz.func191 ?_
  refine Qs<|Qp<|(Qa)<|Qn<|Qs<|Qp ?_
  refine e_join [(0, _), (1, _)] [(4, .bool (hasZ l p))] [] ⟨rfl, rfl, trivial⟩ trivial ?_ ?_
  · skip
    refine (Qm)<|(QU)<|(Qm)<|(QU)<|(QE)<|(Qm) ?_
    refine e_case (b := decide ((p.length : Int) ≤ (l.length : Int))) (fun hb0 => ?_) (fun hb0 => ?_)
    · skip
      refine (Qy)<|(Qm)<|(Qy)<|(Qm)<|(Qy)<|(QU)<|(Qy)<|(Qm)<|(Qy)<|(QU)<|(Qy) ?_
      refine e_sub_in rfl rfl rfl (by omega) (by have := of_decide_eq_true hb0; omega) ?_
      refine (Qy) ?_
      refine e_sliceStr (l.length - p.length) l.length (Uu 9) rfl rfl rfl ⟨_, rfl⟩ rfl (by omega) (by omega) rfl ?_
      refine e_as (congrArg sv (show (l.drop (l.length - p.length)).take (l.length - (l.length - p.length)) = l.drop (l.length - p.length) from List.take_of_length_le (by simp))) ?_
      refine (Qy)<|(Qm)<|(Qy) ?_
      refine e_eqStr rfl rfl rfl (fun b hb => hl b (List.mem_of_mem_drop hb)) hp ?_
      refine (QT)<|(Qa)<|Qn ?_
      exact ⟨⟨rfl, rfl, trivial⟩, ⟨bool_fin (by rw [hasZ, hb0] <;> rfl), trivial⟩, trivial⟩
    · skip
      refine (Qo)<|(Qo)<|(Qo)<|(Qo)<|(Qo)<|(Qo)<|(Qo)<|(Qo)<|(Qo)<|(QF)<|(Qa)<|Qn ?_
      exact ⟨⟨rfl, rfl, trivial⟩, ⟨bool_fin (by rw [hasZ, hb0] <;> rfl), trivial⟩, trivial⟩
  · simp only [catE]
    refine Qr ?_
    exact ⟨_, rfl, .tmp rfl⟩
set_option maxHeartbeats 400000 in
theorem lcutpre_fn (l p : List Nat) (hl : ∀ b ∈ l, b < 256) (hp : ∀ b ∈ p, b < 256) : Fn Tryz.prog G 137 #[sv l, sv p] (.tuple #[sv (cutP l p), .bool (hasP l p)]) := by
  refine Qf2 Tryz.func137 ?_
  refine Qs<|Qp ?_
  refine e_assign (v := sv []) rfl rfl ?_
  refine (Qa)<|Qn<|Qs<|Qs<|Qp<|(Qm)<|(Qm) ?_
  refine e_call rfl (Un 190) (haspre_fn l p hl hp) rfl rfl ?_
  refine (Q0)<|Qn ?_
  refine e_cond rfl ?_ ?_
  · intro hc0
    have hh : hasP l p = false := by simpa using hc0
    rw [show cutP l p = l by rw [cutP, if_neg (by rw [hh]; decide)], hh]
    refine Qs<|Qp<|(Qm)<|(Qa)<|(Qa)<|Qn<|Qr ?_
    exact ⟨_, _, rfl, .tmp rfl, .tmp rfl⟩
  · intro hc0
    have hh : hasP l p = true := by simpa using hc0
    have hlen := (hasP_len hh).1
    rw [show cutP l p = l.drop p.length by rw [cutP, if_pos hh], hh]
    refine Qk<|Qs<|Qp<|(Qm)<|(Qm)<|(QU) ?_
    refine e_sliceStr p.length l.length (Uu 9) rfl rfl rfl ⟨_, rfl⟩ rfl (by omega) (by omega) rfl ?_
    refine e_as (congrArg sv (show (l.drop p.length).take (l.length - p.length) = l.drop p.length from List.take_of_length_le (by simp))) ?_
    refine (Qa)<|(Qa)<|Qn<|Qr ?_
    exact ⟨_, _, rfl, .tmp rfl, .tmp rfl⟩
set_option maxHeartbeats 400000 in
theorem cutpre_fn (l p : List Nat) (hl : ∀ b ∈ l, b < 256) (hp : ∀ b ∈ p, b < 256) : Fn Tryz.prog G 88 #[sv l, sv p] (.tuple #[sv (cutP l p), .bool (hasP l p)]) := by
  refine Qf2 Tryz.func88 ?_
  refine Qs<|Qp ?_
  refine e_assign (v := sv []) rfl rfl ?_
  refine (Qa)<|Qn<|Qs<|Qp<|(Qm)<|(Qm) ?_
  refine e_call rfl (Un 137) (lcutpre_fn l p hl hp) rfl rfl ?_
  refine (Qx)<|(Qx)<|(Qa)<|(Qa)<|Qn<|Qr ?_
  exact ⟨_, _, rfl, .tmp rfl, .tmp rfl⟩
set_option maxHeartbeats 400000 in
theorem lcutsuf_fn (l p : List Nat) (hl : ∀ b ∈ l, b < 256) (hp : ∀ b ∈ p, b < 256) (hz : l.length ≤ 4294967296) : Fn Tryz.prog G 138 #[sv l, sv p] (.tuple #[sv (cutZ l p), .bool (hasZ l p)]) := by
  refine Qf2 Tryz.func138 ?_
  refine Qs<|Qp ?_
  refine e_assign (v := sv []) rfl rfl ?_
  refine (Qa)<|Qn<|Qs<|Qs<|Qp<|(Qm)<|(Qm) ?_
  refine e_call rfl (Un 191) (hassufZ_fn l p hl hp hz) rfl rfl ?_
  refine (Q0)<|Qn ?_
  refine e_cond rfl ?_ ?_
  · intro hc0
    have hh : hasZ l p = false := by simpa using hc0
    rw [show cutZ l p = l by rw [cutZ, if_neg (by rw [hh]; decide)], hh]
    refine Qs<|Qp<|(Qm)<|(Qa)<|(Qa)<|Qn<|Qr ?_
    exact ⟨_, _, rfl, .tmp rfl, .tmp rfl⟩
  · intro hc0
    have hh : hasZ l p = true := by simpa using hc0
    have hlen := (hasZ_len hh).1
    rw [show cutZ l p = l.take (l.length - p.length) by rw [cutZ, if_pos hh], hh]
    refine Qk<|Qs<|Qp<|(Qm)<|(Qm)<|(QU)<|(Qm)<|(QU) ?_
    refine e_sub_in rfl rfl rfl (by omega) (by omega) ?_
    refine e_sliceStr 0 (l.length - p.length) (Uu 9) rfl rfl rfl rfl ⟨_, rfl⟩ (by omega) (by omega) rfl ?_
    refine e_as (show _ = sv (l.take (l.length - p.length)) from rfl) ?_
    refine (Qa)<|(Qa)<|Qn<|Qr ?_
    exact ⟨_, _, rfl, .tmp rfl, .tmp rfl⟩
set_option maxHeartbeats 400000 in
theorem cutsuf_fn (l p : List Nat) (hl : ∀ b ∈ l, b < 256) (hp : ∀ b ∈ p, b < 256) (hz : l.length ≤ 4294967296) : Fn Tryz.prog G 89 #[sv l, sv p] (.tuple #[sv (cutZ l p), .bool (hasZ l p)]) := by
  refine Qf2 Tryz.func89 ?_
  refine Qs<|Qp ?_
  refine e_assign (v := sv []) rfl rfl ?_
  refine (Qa)<|Qn<|Qs<|Qp<|(Qm)<|(Qm) ?_
  refine e_call rfl (Un 138) (lcutsuf_fn l p hl hp hz) rfl rfl ?_
  refine (Qx)<|(Qx)<|(Qa)<|(Qa)<|Qn<|Qr ?_
  exact ⟨_, _, rfl, .tmp rfl, .tmp rfl⟩
end Go.Proofs.YthljakcegoohlaaGreatDoor
namespace Go.Proofs.YthljakcegoohlaaGreatDoor
open Go Go.RowKit
variable {G : Mem}
end Go.Proofs.YthljakcegoohlaaGreatDoor
namespace Go.Proofs.YthljakcegoohlaaGreatDoor
open Go Go.RowKit
variable {G : Mem}
end Go.Proofs.YthljakcegoohlaaGreatDoor
namespace Go.Proofs.YthljakcegoohlaaGreatDoor
open Go Go.RowKit
abbrev MLB (m : Int) : Blk := ⟨1, #[.int .i64 m], 3⟩
theorem xindexS {G : Mem} (l : List Nat) (m : Int) (hl : ∀ b ∈ l, b < 256) (hm : 3 ≤ m) (hz : l.length < 4294967281) (w : World) (hG : MemR (MLB m :: G) w) : (callFunc 147 #[sv l, sv PSK]).run Tryz.prog w = .ok (.value (ixv (ixp l))) w := by
  have hc : w.cell? ⟨1, 0, none⟩ = some (.int .i64 m) := (hG _ List.mem_cons_self).2 0 (by simp)
  rw [run_callFunc_extern Tryz.func147 (by kernel_rfl) (by kernel_rfl) (by kernel_rfl) (e := Extern.BytealgIndex.index) (by kernel_rfl), Lib.run_indexString (bstr l) (bstr PSK) w 1 m (by kernel_rfl) hc (by decide) (by have h9 : ((bstr PSK).size : Int) = 3 := rfl; omega) (by simpa [bstr, ByteArray.size] using hz)]
  have h := lib_psk hl
  rw [← h]
  simp [bstr, Result.andThen]
variable {G : Mem}
set_option maxHeartbeats 400000 in
theorem cutover_fn (n : Nat) (hn : n ≤ 4294967296) : Fn Tryz.prog G 148 #[ii n] (ii ((n + 16) / 8)) := by
  refine Qf1 Tryz.func148 ?_
  refine Qs<|Qp<|(Qa)<|Qn<|Qs<|Qp<|(Qm)<|(Q2 16)<|(Q5 8)<|(Qa)<|Qn<|Qr ?_
  exact ⟨_, rfl, .tmp rfl⟩
set_option maxHeartbeats 2000000 in
theorem hash_psk : Fn Tryz.prog G 197 #[sv PSK] (.tuple #[uw 337003364, uw 1055306571]) := by
  refine Qf2 Tryz.func197 ?_
  refine Qs<|Qp<|(Qa)<|(Qa)<|Qn<|Qs<|Qp<|(Qa)<|Qn<|Qs<|Qs<|Qp<|(Qa)<|Qn<|Qb ?_
  refine QzK [(0, _), (2, _), (3, _)] [] (fun kk E m => ∃ (i : Nat) (h : Nat), kk = 3 - i ∧ E = [(4, uw h), (5, ii i)] ∧ m = [] ∧ (i ≤ 3) ∧ ((i = 0 ∧ h = 0) ∨ (i = 1 ∧ h = 112) ∨ (i = 2 ∧ h = 1879093443) ∨ (i = 3 ∧ h = 337003364))) ⟨0, 0, rfl, rfl, rfl, by omega, .inl ⟨rfl, rfl⟩⟩ ⟨rfl, rfl, rfl, rfl, rfl, trivial⟩ trivial ?_
  rintro kk E m ⟨i, h, rfl, rfl, rfl, hf0_0, hf0_1⟩
  simp only [catE, catL]
  refine Qs<|Qs<|Qp<|(Qm)<|(Qm)<|(QU) ?_
  refine e_as (show _ = ii 3 from rfl) ?_
  refine (Ql)<|Qn ?_
  refine e_cond rfl ?_ ?_
  · intro hc0
    have hc0 : i < 3 := by have := of_decide_eq_true hc0; omega
    refine Qk<|Qs<|Qb<|Qp<|(Qm) ?_
    refine e_mul_w (q := 16777619) rfl rfl rfl  ?_
    refine (Qm)<|(Qm) ?_
    refine e_idxStr (Uu 9) rfl rfl (at_getD (l := PSK) (show i < 3 by omega)) (getD_b (by decide) _) rfl ?_
    refine e_conv_w (Uu 5) (Uu 118) rfl rfl rfl ?_
    refine e_as (congrArg uw (Nat.mod_eq_of_lt (Nat.lt_trans (getD_b (l := PSK) (by decide) i) (by decide)))) ?_
    refine e_add_w rfl rfl rfl  ?_
    refine (Qa)<|Qn<|Qp<|(Qm)<|(Q2 1)<|(Qa)<|Qn ?_
    refine QzL ⟨i + 1, _, rfl, rfl, rfl, by omega, (by rcases hf0_1 with ⟨rfl, rfl⟩ | ⟨rfl, rfl⟩ | ⟨rfl, rfl⟩ | ⟨rfl, rfl⟩; (right; left; decide); (right; right; left; decide); (right; right; right; decide); (exact absurd hc0 (by decide)))⟩ ⟨rfl, rfl, rfl, rfl, rfl, trivial⟩ trivial ?_
    omega
  · intro hc0
    have hc0 := of_decide_eq_false hc0
    have hz0 : i = 3 := by omega
    refine Qe<|Qs<|Qp<|(Qa)<|(Qa)<|Qn<|Qs<|Qs<|Qp<|(Qm)<|(QU) ?_
    refine e_as (show _ = ii 3 from rfl) ?_
    refine (Qa)<|Qn<|Qb ?_
    refine QzK [(0, _), (2, _), (3, _), (4, _), (5, _)] [] (fun kk E m => ∃ (q : Nat) (pw : Nat) (sq : Nat), kk = 2 * q ∧ E = [(6, uw pw), (7, uw sq), (8, ii q)] ∧ m = [] ∧ ((q = 3 ∧ pw = 1 ∧ sq = 16777619) ∨ (q = 1 ∧ pw = 16777619 ∧ sq = 637696617) ∨ (q = 0 ∧ pw = 1055306571 ∧ sq = 1345077009))) ⟨3, 1, 16777619, rfl, rfl, rfl, .inl ⟨rfl, rfl, rfl⟩⟩ ⟨rfl, rfl, rfl, rfl, rfl, rfl, rfl, rfl, trivial⟩ trivial ?_
    rintro kk E m ⟨q, pw, sq, rfl, rfl, rfl, hf1_0⟩
    simp only [catE, catL]
    refine Qs<|Qs<|Qp<|(Qm)<|(QG)<|Qn ?_
    refine e_cond rfl ?_ ?_
    · intro hc1
      have hc1 := of_decide_eq_true hc1
      refine Qk<|Qs<|Qb<|Qs<|Qs<|Qp<|(Qm) ?_
      refine e_and1 (by omega) rfl rfl rfl ?_
      refine (QN)<|Qn ?_
      refine e_cond rfl ?_ ?_
      · intro hc2
        have hc2 := of_decide_eq_true hc2
        refine Qp<|(Qm)<|(Qm) ?_
        refine e_mul_w rfl rfl rfl  ?_
        refine (Qa)<|Qn<|Qp<|(Qm)<|(Qm) ?_
        refine e_mul_w rfl rfl rfl  ?_
        refine (Qa)<|Qn<|Qp<|(Qm) ?_
        refine e_shr_i (s := 1) rfl rfl rfl (by omega) ?_
        refine (Qa)<|Qn ?_
        refine QzL ⟨q / 2, _, _, rfl, rfl, rfl, (by rcases hf1_0 with ⟨rfl, rfl, rfl⟩ | ⟨rfl, rfl, rfl⟩ | ⟨rfl, rfl, rfl⟩; (first | (right; left; decide) | exact absurd hc2 (by decide)); (first | (right; right; decide) | exact absurd hc2 (by decide)); (exact absurd hc1 (by decide)))⟩ ⟨rfl, rfl, rfl, rfl, rfl, rfl, rfl, rfl, trivial⟩ trivial ?_
        omega
      · intro hc2
        have hc2 := of_decide_eq_false hc2
        refine Qk<|Qp<|(Qm)<|(Qm) ?_
        refine e_mul_w rfl rfl rfl  ?_
        refine (Qa)<|Qn<|Qp<|(Qm) ?_
        refine e_shr_i (s := 1) rfl rfl rfl (by omega) ?_
        refine (Qa)<|Qn ?_
        refine QzL ⟨q / 2, _, _, rfl, rfl, rfl, (by rcases hf1_0 with ⟨rfl, rfl, rfl⟩ | ⟨rfl, rfl, rfl⟩ | ⟨rfl, rfl, rfl⟩; (first | (right; left; decide) | exact absurd hc2 (by decide)); (first | (right; right; decide) | exact absurd hc2 (by decide)); (exact absurd hc1 (by decide)))⟩ ⟨rfl, rfl, rfl, rfl, rfl, rfl, rfl, rfl, trivial⟩ trivial ?_
        omega
    · intro hc1
      have hc1 := of_decide_eq_false hc1
      refine Qe<|Qs<|Qp<|(Qm)<|(Qm)<|(Qa)<|(Qa)<|Qn<|Qr ?_
      obtain ⟨rfl, rfl⟩ : h = 337003364 ∧ pw = 1055306571 := by omega
      exact ⟨_, _, rfl, .tmp rfl, .tmp rfl⟩
set_option maxHeartbeats 4000000 in
theorem rabin_psk (l : List Nat) (hl : ∀ b ∈ l, b < 256) (h3 : 3 ≤ l.length) (hz : l.length < 4294967281) : Fn Tryz.prog G 149 #[sv l, sv PSK] (ixv (ixp l)) := by
  refine Qf1 Tryz.func149 ?_
  refine Qs<|Qp<|(Qa)<|Qn<|Qs<|Qp<|(Qm) ?_
  refine e_call rfl (Un 197) hash_psk rfl rfl ?_
  refine (Qm)<|(Qx)<|(Qx)<|(Qa)<|(Qa)<|Qn<|Qs<|Qp<|(Qm)<|(QU) ?_
  refine e_as (show _ = ii 3 from rfl) ?_
  refine (Qa)<|Qn<|Qs<|Qp<|(Qa)<|Qn<|Qs<|Qs<|Qp<|(Qa)<|Qn<|Qb ?_
  refine QzK [(0, _), (1, _), (4, _), (5, _), (6, _), (7, _)] [] (fun kk E m => ∃ (i : Nat) (h : Nat), kk = 3 - i ∧ E = [(8, uw h), (9, ii i)] ∧ m = [] ∧ (i ≤ 3) ∧ (h = hpre l i)) ⟨0, 0, rfl, rfl, rfl, by omega, (by rw [hpre, if_pos rfl])⟩ ⟨rfl, rfl, rfl, rfl, rfl, rfl, rfl, rfl, trivial⟩ trivial ?_
  rintro kk E m ⟨i, h, rfl, rfl, rfl, hf0_0, hf0_1⟩
  simp only [catE, catL]
  refine Qs<|Qs<|Qp<|(Qm)<|(Qm)<|(Ql)<|Qn ?_
  refine e_cond rfl ?_ ?_
  · intro hc0
    have hc0 : i < 3 := by have := of_decide_eq_true hc0; omega
    refine Qk<|Qs<|Qb<|Qp<|(Qm) ?_
    refine e_mul_w (q := 16777619) rfl rfl rfl  ?_
    refine (Qm)<|(Qm) ?_
    refine e_idxStr (Uu 9) rfl rfl (at_getD (show i < l.length by omega)) (getD_b hl _) rfl ?_
    refine e_conv_w (Uu 5) (Uu 118) rfl rfl rfl ?_
    refine e_as (congrArg uw (Nat.mod_eq_of_lt (Nat.lt_trans (getD_b hl (i)) (by decide)))) ?_
    refine e_add_w rfl rfl rfl  ?_
    refine (Qa)<|Qn<|Qp<|(Qm)<|(Q2 1)<|(Qa)<|Qn ?_
    refine QzL ⟨i + 1, _, rfl, rfl, rfl, by omega, (by rw [hf0_1]; exact hpre_step hc0 hl)⟩ ⟨rfl, rfl, rfl, rfl, rfl, rfl, rfl, rfl, trivial⟩ trivial ?_
    omega
  · intro hc0
    have hc0 := of_decide_eq_false hc0
    have hz0 : i = 3 := by omega
    have hg0 : h = hW l (3 - 3) := by rw [hf0_1, hz0]; exact hpre_all l
    refine Qe<|Qs<|Qs<|Qp ?_
    refine e_join [(0, _), (1, _), (4, _), (5, _), (6, _), (7, _), (8, _), (9, _), (18, _), (19, _), (20, _)] [(39, .bool (decide (oc l 0)))] [] ⟨rfl, rfl, rfl, rfl, rfl, rfl, rfl, rfl, rfl, rfl, rfl, trivial⟩ trivial ?_ ?_
    · skip
      refine (Qm)<|(Qm)<|(Qc)<|(Qm) ?_
      refine e_case (fun hb0 => ?_) (fun hb0 => ?_)
      · skip
        refine (Qy)<|(Qm)<|(Qy)<|(Qm)<|(Qy) ?_
        refine e_sliceStr 0 3 (Uu 9) rfl rfl rfl rfl ⟨_, rfl⟩ (by omega) (by omega) rfl ?_
        refine (Qy)<|(Qm)<|(Qy) ?_
        refine e_eqStr rfl rfl rfl (fun b hb => hl b (List.mem_of_mem_drop (List.mem_of_mem_take hb))) (by decide) ?_
        refine (QT)<|Qn ?_
        exact ⟨⟨rfl, rfl, rfl, rfl, rfl, rfl, rfl, rfl, rfl, rfl, rfl, trivial⟩, ⟨bool_fin (by first | exact (decide_eq_false (fun e => of_decide_eq_false hb0 (by rw [hg0, oc_hash e]))).symm | rfl), trivial⟩, trivial⟩
      · skip
        refine (Qo)<|(Qo)<|(Qo)<|(Qo)<|(Qo)<|(QF)<|Qn ?_
        exact ⟨⟨rfl, rfl, rfl, rfl, rfl, rfl, rfl, rfl, rfl, rfl, rfl, trivial⟩, ⟨bool_fin (by first | exact (decide_eq_false (fun e => of_decide_eq_false hb0 (by rw [hg0, oc_hash e]))).symm | rfl), trivial⟩, trivial⟩
    · simp only [catE]
      refine e_cond rfl ?_ ?_
      · intro hc1
        have hoc := of_decide_eq_true hc1
        have hfin := ixp_first hoc (fun j hj => absurd hj (Nat.not_lt_zero j))
        refine Qs<|Qp<|(Qa)<|Qn<|Qr ?_
        rw [hfin]
        exact ⟨_, rfl, .tmp rfl⟩
      · intro hc1
        have hn0 := of_decide_eq_false hc1
        refine Qk<|Qs<|Qs<|Qp<|(Qm)<|(Qa)<|Qn<|Qb ?_
        refine QzK [(0, _), (1, _), (5, _), (6, _), (7, _), (9, _)] [] (fun kk E m => ∃ (k : Nat) (g : Nat), kk = l.length - k ∧ E = [(8, uw g), (10, ii k)] ∧ m = [] ∧ (3 ≤ k ∧ k ≤ l.length) ∧ (g = hW l (k - 3)) ∧ (∀ j, j + 3 ≤ k → ¬ oc l j)) ⟨3, h, rfl, rfl, rfl, ⟨by omega, h3⟩, hg0, fun j hj => by rw [show j = 0 by omega]; exact hn0⟩ ⟨rfl, rfl, rfl, rfl, rfl, rfl, rfl, rfl, trivial⟩ trivial ?_
        rintro kk E m ⟨k, g, rfl, rfl, rfl, hf1_0, hf1_1, hf1_2⟩
        simp only [catE, catL]
        refine Qs<|Qs<|Qp<|(Qm)<|(Qm)<|(QU)<|(Ql)<|Qn ?_
        refine e_cond rfl ?_ ?_
        · intro hc2
          have hc2 := of_decide_eq_true hc2
          refine Qk<|Qb<|Qs<|Qp<|(Qm) ?_
          refine e_mul_w (q := 16777619) rfl rfl rfl  ?_
          refine (Qa)<|Qn<|Qs<|Qp<|(Qm)<|(Qm)<|(Qm) ?_
          refine e_idxStr (Uu 9) rfl rfl (at_getD (show k < l.length by omega)) (getD_b hl _) rfl ?_
          refine e_conv_w (Uu 5) (Uu 118) rfl rfl rfl ?_
          refine e_as (congrArg uw (Nat.mod_eq_of_lt (Nat.lt_trans (getD_b hl (k)) (by decide)))) ?_
          refine e_add_w rfl rfl rfl  ?_
          refine (Qa)<|Qn<|Qs<|Qp<|(Qm)<|(Qm)<|(Qm)<|(Qm)<|(Qm) ?_
          refine e_sub_in rfl rfl rfl (by omega) (by omega) ?_
          refine e_idxStr (Uu 9) rfl rfl (at_getD (show k - 3 < l.length by omega)) (getD_b hl _) rfl ?_
          refine e_conv_w (Uu 5) (Uu 118) rfl rfl rfl ?_
          refine e_as (congrArg uw (Nat.mod_eq_of_lt (Nat.lt_trans (getD_b hl (k - 3)) (by decide)))) ?_
          refine e_mul_w rfl rfl rfl  ?_
          refine e_sub_w rfl rfl rfl (by omega) ?_
          refine e_gen_w fun g2 hg2 => ?_
          refine (Qa)<|Qn<|Qs<|Qp<|(Qm) ?_
          have hg2 : g2 = hW l (k + 1 - 3) := by rw [hg2]; rw [hf1_1]; exact hW_roll hf1_0.1
          refine (Q2 1)<|(Qa)<|Qn<|Qs<|Qp ?_
          refine e_join [(0, _), (1, _), (5, _), (6, _), (7, _), (8, _), (9, _), (10, _), (41, _), (42, _), (43, _), (44, _), (45, _), (46, _), (47, _), (48, _), (49, _), (50, _), (51, _), (52, _), (53, _), (54, _), (55, _), (56, _), (57, _), (58, _), (59, _), (60, _), (61, _), (62, _), (63, _), (64, _)] [(77, .bool (decide (oc l (k + 1 - 3))))] [] ⟨rfl, rfl, rfl, rfl, rfl, rfl, rfl, rfl, rfl, rfl, rfl, rfl, rfl, rfl, rfl, rfl, rfl, rfl, rfl, rfl, rfl, rfl, rfl, rfl, rfl, rfl, rfl, rfl, rfl, rfl, rfl, rfl, trivial⟩ trivial ?_ ?_
          · skip
            refine (Qm)<|(Qm)<|(Qc)<|(Qm) ?_
            refine e_case (fun hb1 => ?_) (fun hb1 => ?_)
            · skip
              refine (Qy)<|(Qm)<|(Qy)<|(Qm)<|(Qy)<|(Qm)<|(Qy) ?_
              refine e_sub_in rfl rfl rfl (by omega) (by omega) ?_
              refine (Qy)<|(Qm)<|(Qy) ?_
              refine e_sliceStr (k + 1 - 3) (k + 1) (Uu 9) rfl rfl rfl ⟨_, rfl⟩ ⟨_, rfl⟩ (by omega) (by omega) rfl ?_
              refine e_as (congrArg (fun z => sv ((l.drop (k + 1 - 3)).take z)) (show k + 1 - (k + 1 - 3) = 3 by omega)) ?_
              refine (Qy)<|(Qm)<|(Qy) ?_
              refine e_eqStr rfl rfl rfl (fun b hb => hl b (List.mem_of_mem_drop (List.mem_of_mem_take hb))) (by decide) ?_
              refine (QT)<|Qn ?_
              exact ⟨⟨rfl, rfl, rfl, rfl, rfl, rfl, rfl, rfl, rfl, rfl, rfl, rfl, rfl, rfl, rfl, rfl, rfl, rfl, rfl, rfl, rfl, rfl, rfl, rfl, rfl, rfl, rfl, rfl, rfl, rfl, rfl, rfl, trivial⟩, ⟨bool_fin (by first | exact (decide_eq_false (fun e => of_decide_eq_false hb1 (by rw [hg2, oc_hash e]))).symm | rfl), trivial⟩, trivial⟩
            · skip
              refine (Qo)<|(Qo)<|(Qo)<|(Qo)<|(Qo)<|(Qo)<|(Qo)<|(Qo)<|(QF)<|Qn ?_
              exact ⟨⟨rfl, rfl, rfl, rfl, rfl, rfl, rfl, rfl, rfl, rfl, rfl, rfl, rfl, rfl, rfl, rfl, rfl, rfl, rfl, rfl, rfl, rfl, rfl, rfl, rfl, rfl, rfl, rfl, rfl, rfl, rfl, rfl, trivial⟩, ⟨bool_fin (by first | exact (decide_eq_false (fun e => of_decide_eq_false hb1 (by rw [hg2, oc_hash e]))).symm | rfl), trivial⟩, trivial⟩
          · simp only [catE]
            refine e_cond rfl ?_ ?_
            · intro hc3
              have hoc := of_decide_eq_true hc3
              have hfin := ixp_first hoc (fun j hj => hf1_2 j (by omega))
              refine Qs<|Qp<|(Qm)<|(Qm) ?_
              refine e_sub_in rfl rfl rfl (by omega) (by omega) ?_
              refine (Qa)<|Qn<|Qr ?_
              rw [hfin]
              exact ⟨_, rfl, .tmp rfl⟩
            · intro hc3
              have hn2 := of_decide_eq_false hc3
              refine Qk ?_
              refine QzL ⟨k + 1, _, rfl, rfl, rfl, (by omega), hg2, (fun j hj => by rcases (by omega : j + 3 ≤ k ∨ j = k + 1 - 3) with h9 | rfl; exact hf1_2 j h9; exact hn2)⟩ ⟨rfl, rfl, rfl, rfl, rfl, rfl, rfl, rfl, trivial⟩ trivial ?_
              omega
        · intro hc2
          have hc2 := of_decide_eq_false hc2
          have hfin := ixp_none (l := l) (fun j e => hf1_2 j (by have := oc_len e; omega) e)
          refine Qe<|Qs<|Qp<|(Qa)<|Qn<|Qr ?_
          rw [hfin]
          exact ⟨_, rfl, .tmp rfl⟩
end Go.Proofs.YthljakcegoohlaaGreatDoor
namespace Go.Proofs.YthljakcegoohlaaGreatDoor
open Go Go.RowKit
variable {G : Mem}
set_option maxHeartbeats 8000000 in
theorem lindexP_fn (l : List Nat) (m : Int) (hl : ∀ b ∈ l, b < 256) (hz : l.length < 4294967281) : Fn Tryz.prog (MLB m :: G) 96 #[sv l, sv PSK] (ixv (ixp l)) := by
  refine Qf1 Tryz.func96 ?_
  refine Qs<|Qp<|(Qa)<|Qn<|Qs<|Qp<|(Qm)<|(QU) ?_
  refine e_as (show _ = ii 3 from rfl) ?_
  refine (Qa)<|Qn<|Qs<|Qb<|Qs<|Qp ?_
  refine e_join [(0, _), (1, _), (4, _), (5, _), (14, _), (15, _)] [(16, .bool (decide (PSK = l)))] [] ⟨rfl, rfl, rfl, rfl, rfl, rfl, trivial⟩ trivial ?_ ?_
  · skip
    refine (Qm)<|(Qc)<|(Qm) ?_
    refine e_case (fun hb0 => ?_) (fun hb0 => ?_)
    · skip
      refine (Qo)<|(Qo)<|(Qo)<|(QT)<|(Qa)<|Qn ?_
      exact ⟨⟨rfl, rfl, rfl, rfl, rfl, rfl, trivial⟩, ⟨bool_fin (by first | exact absurd hb0 (by decide) | rfl), trivial⟩, trivial⟩
    · skip
      refine (Qy)<|(Qm)<|(Qy)<|(Qm)<|(Qy) ?_
      refine e_eqStr rfl rfl rfl (by decide) hl ?_
      refine (QF)<|(Qa)<|Qn ?_
      exact ⟨⟨rfl, rfl, rfl, rfl, rfl, rfl, trivial⟩, ⟨bool_fin (by first | exact absurd hb0 (by decide) | rfl), trivial⟩, trivial⟩
  · simp only [catE]
    refine e_cond rfl ?_ ?_
    · intro hc0
      have hfin := oc_psk (of_decide_eq_true hc0)
      refine Qs<|Qp<|(Qa)<|Qn<|Qr ?_
      rw [hfin]
      exact ⟨_, rfl, .tmp rfl⟩
    · intro hc0
      have hne := of_decide_eq_false hc0
      refine Qs<|Qp<|(Qm)<|(Qc)<|(Qaf)<|(Qa)<|Qn<|(Qcf)<|Qs<|Qp<|(Qm)<|(Qm)<|(QU)<|(QE)<|(Qa)<|Qn ?_
      refine e_cond rfl ?_ ?_
      · intro hc2
        have hfin := ixp_none (oc_short (by have := of_decide_eq_true hc2; omega) hne)
        refine Qs<|Qp<|(Qa)<|Qn<|Qr ?_
        rw [hfin]
        exact ⟨_, rfl, .tmp rfl⟩
      · intro hc2
        have hlen := of_decide_eq_false hc2
        refine Qs<|Qp ?_
        refine e_join [(0, _), (1, _), (4, _), (5, _), (14, _), (15, _), (16, _), (24, _), (25, _), (26, _), (31, _), (32, _), (33, _), (34, _), (35, _)] [(36, .bool (decide (((3 : Nat) : Int) ≤ m) && decide ((l.length : Int) ≤ 64)))] [] ⟨rfl, rfl, rfl, rfl, rfl, rfl, rfl, rfl, rfl, rfl, rfl, rfl, rfl, rfl, rfl, trivial⟩ trivial ?_ ?_
        · skip
          refine (Qm) ?_
          refine e_load1g (i := 0) (Uu 3) rfl rfl rfl rfl rfl ?_
          refine (QL)<|(Qm) ?_
          refine e_case (fun hb1 => ?_) (fun hb1 => ?_)
          · skip
            refine (Qy)<|(Qm)<|(Qy)<|(QU)<|(Qy)<|(QL)<|(QT)<|(Qa)<|Qn ?_
            exact ⟨⟨rfl, rfl, rfl, rfl, rfl, rfl, rfl, rfl, rfl, rfl, rfl, rfl, rfl, rfl, rfl, trivial⟩, ⟨bool_fin (by rw [hb1] <;> rfl), trivial⟩, trivial⟩
          · skip
            refine (Qo)<|(Qo)<|(Qo)<|(QF)<|(Qa)<|Qn ?_
            exact ⟨⟨rfl, rfl, rfl, rfl, rfl, rfl, rfl, rfl, rfl, rfl, rfl, rfl, rfl, rfl, rfl, trivial⟩, ⟨bool_fin (by rw [hb1] <;> rfl), trivial⟩, trivial⟩
        · simp only [catE]
          refine e_cond rfl ?_ ?_
          · intro hc3
            have hm1 := and2_true hc3
            have hfin : ixp l = ixp l := rfl
            refine Qs<|Qp<|(Qm)<|(Qm) ?_
            refine e_callEG rfl (fun w hG => xindexS l m hl hm1.1 hz w hG) rfl rfl ?_
            refine (Qa)<|Qn<|Qr ?_
            rw [hfin]
            exact ⟨_, rfl, .tmp rfl⟩
          · intro hc3
            refine Qk<|Qs<|Qp<|(Qm) ?_
            refine e_idxStr (Uu 9) rfl rfl rfl (by decide) rfl ?_
            refine (Qa)<|Qn<|Qs<|Qp<|(Qm) ?_
            refine e_idxStr (Uu 9) rfl rfl rfl (by decide) rfl ?_
            refine (Qa)<|Qn<|Qs<|Qp<|(Qa)<|Qn<|Qs<|Qp<|(Qm)<|(QU)<|(Qm) ?_
            refine e_sub_in rfl rfl rfl (by omega) (by omega) ?_
            refine (Q2 1)<|(Qa)<|Qn<|Qs<|Qp<|(Qa)<|Qn<|Qs<|Qb ?_
            refine QzK [(0, _), (1, _), (5, _), (6, _), (7, _), (9, _)] [] (fun kk E m => ∃ (i : Nat) (f : Nat), kk = (l.length - 3 + 1) - i ∧ E = [(8, ii i), (10, ii f)] ∧ m = [] ∧ (i ≤ (l.length - 3 + 1) ∧ f ≤ i) ∧ (∀ j, j < i → ¬ oc l j)) ⟨0, 0, rfl, rfl, rfl, ⟨by omega, Nat.le_refl _⟩, fun j hj => absurd hj (Nat.not_lt_zero j)⟩ ⟨rfl, rfl, rfl, rfl, rfl, rfl, rfl, rfl, trivial⟩ trivial ?_
            rintro kk E m ⟨i, f, rfl, rfl, rfl, hf0_0, hf0_1⟩
            simp only [catE, catL]
            refine Qs<|Qs<|Qp<|(Qm)<|(Qm)<|(Ql)<|Qn ?_
            refine e_cond rfl ?_ ?_
            · intro hc4
              have hit := of_decide_eq_true hc4
              refine Qk<|Qb<|Qs<|Qs ?_
              rcases skipc l i (l.length - 3 + 1) with h112 | ⟨h112, ho⟩ | ⟨o, h112, ho⟩
              · skip
                refine Qp<|(Qm)<|(Qm) ?_
                refine e_idxStr (Uu 9) rfl rfl (at_getD (show i < l.length by omega)) (getD_b hl _) rfl ?_
                refine (Qm)<|(QN)<|Qn ?_
                refine e_cond rfl ?_ ?_
                · intro hc5
                  exact absurd (of_decide_eq_true hc5) (by omega)
                · intro hc5
                  refine Qk<|Qs<|Qs<|Qp ?_
                  refine e_join [(0, _), (1, _), (5, _), (6, _), (7, _), (8, _), (9, _), (10, _), (57, _), (58, _), (59, _), (60, _), (61, _), (62, _), (63, _), (64, _)] [(93, .bool (decide (oc l i)))] [] ⟨rfl, rfl, rfl, rfl, rfl, rfl, rfl, rfl, rfl, rfl, rfl, rfl, rfl, rfl, rfl, rfl, trivial⟩ trivial ?_ ?_
                  · skip
                    refine (Qm)<|(Qm)<|(Q2 1) ?_
                    refine e_idxStr (Uu 9) rfl rfl (at_getD (show i + 1 < l.length by omega)) (getD_b hl _) rfl ?_
                    refine (Qm)<|(Qc)<|(Qm) ?_
                    refine e_case (fun hb2 => ?_) (fun hb2 => ?_)
                    · skip
                      refine (Qy)<|(Qm)<|(Qy)<|(Qm)<|(Qy)<|(Qm)<|(Qy)<|(Qm)<|(Qy)<|(Q3)<|(Qy) ?_
                      refine e_sliceStr i (i + 3) (Uu 9) rfl rfl rfl ⟨_, rfl⟩ ⟨_, rfl⟩ (by omega) (by omega) rfl ?_
                      refine e_as (congrArg (fun z => sv ((l.drop i).take z)) (show i + 3 - i = 3 by omega)) ?_
                      refine (Qy)<|(Qm)<|(Qy) ?_
                      refine e_eqStr rfl rfl rfl (fun b hb => hl b (List.mem_of_mem_drop (List.mem_of_mem_take hb))) (by decide) ?_
                      refine (QT)<|Qn ?_
                      exact ⟨⟨rfl, rfl, rfl, rfl, rfl, rfl, rfl, rfl, rfl, rfl, rfl, rfl, rfl, rfl, rfl, rfl, trivial⟩, ⟨bool_fin (by first | exact (decide_eq_false (fun x => of_decide_eq_false hb2 (by have := (oc_at x).2.1; omega))).symm | rfl), trivial⟩, trivial⟩
                    · skip
                      refine (Qo)<|(Qo)<|(Qo)<|(Qo)<|(Qo)<|(Qo)<|(Qo)<|(Qo)<|(QF)<|Qn ?_
                      exact ⟨⟨rfl, rfl, rfl, rfl, rfl, rfl, rfl, rfl, rfl, rfl, rfl, rfl, rfl, rfl, rfl, rfl, trivial⟩, ⟨bool_fin (by first | exact (decide_eq_false (fun x => of_decide_eq_false hb2 (by have := (oc_at x).2.1; omega))).symm | rfl), trivial⟩, trivial⟩
                  · simp only [catE]
                    refine e_cond rfl ?_ ?_
                    · intro hc6
                      have hoc := of_decide_eq_true hc6
                      have hfin := ixp_first hoc hf0_1
                      refine Qs<|Qp<|(Qm)<|(Qa)<|Qn<|Qr ?_
                      rw [hfin]
                      exact ⟨_, rfl, .tmp rfl⟩
                    · intro hc6
                      have hbn := oc_next hf0_1 (of_decide_eq_false hc6)
                      refine Qk<|Qs<|Qp<|(Qm)<|(Q2 1)<|(Qa)<|Qn<|Qs<|Qp<|(Qm)<|(Q2 1)<|(Qa)<|Qn<|Qs<|Qp ?_
                      refine e_join [(0, _), (1, _), (5, _), (6, _), (7, _), (8, _), (9, _), (10, _), (57, _), (58, _), (59, _), (60, _), (61, _), (62, _), (63, _), (64, _), (93, _), (95, _), (96, _), (97, _), (98, _)] [(107, .bool (decide (((3 : Nat) : Int) ≤ m) && decide ((((i + 1 + 16) / 8 : Nat) : Int) < ((f + 1 : Nat) : Int))))] [] ⟨rfl, rfl, rfl, rfl, rfl, rfl, rfl, rfl, rfl, rfl, rfl, rfl, rfl, rfl, rfl, rfl, rfl, rfl, rfl, rfl, rfl, trivial⟩ trivial ?_ ?_
                      · skip
                        refine (Qm) ?_
                        refine e_load1g (i := 0) (Uu 3) rfl rfl rfl rfl rfl ?_
                        refine (QL)<|(Qm) ?_
                        refine e_case (fun hb3 => ?_) (fun hb3 => ?_)
                        · skip
                          refine (Qy)<|(Qm)<|(Qy)<|(Qm)<|(Qy) ?_
                          refine e_call rfl (Un 148) (cutover_fn (i + 1) (by omega)) rfl rfl ?_
                          refine (Qy)<|(QG)<|(QT)<|Qn ?_
                          exact ⟨⟨rfl, rfl, rfl, rfl, rfl, rfl, rfl, rfl, rfl, rfl, rfl, rfl, rfl, rfl, rfl, rfl, rfl, rfl, rfl, rfl, rfl, trivial⟩, ⟨bool_fin (by rw [hb3] <;> rfl), trivial⟩, trivial⟩
                        · skip
                          refine (Qo)<|(Qo)<|(Qo)<|(Qo)<|(QF)<|Qn ?_
                          exact ⟨⟨rfl, rfl, rfl, rfl, rfl, rfl, rfl, rfl, rfl, rfl, rfl, rfl, rfl, rfl, rfl, rfl, rfl, rfl, rfl, rfl, rfl, trivial⟩, ⟨bool_fin (by rw [hb3] <;> rfl), trivial⟩, trivial⟩
                      · simp only [catE]
                        refine e_cond rfl ?_ ?_
                        · intro hc7
                          have hmm := and2_true hc7
                          refine Qs ?_
                          rcases ixp_cases (l.drop (i + 1)) with hq | ⟨r, hq⟩
                          · skip
                            refine Qp<|(Qm)<|(Qm) ?_
                            refine e_sliceStr (i + 1) l.length (Uu 9) rfl rfl rfl ⟨_, rfl⟩ rfl (by omega) (by omega) rfl ?_
                            refine e_as (congrArg sv (show (l.drop (i + 1)).take (l.length - (i + 1)) = (l.drop (i + 1)) from List.take_of_length_le (by simp))) ?_
                            refine (Qm) ?_
                            refine e_callEG rfl (fun w hG => xindexS (l.drop (i + 1)) m (fun b hb => hl b (List.mem_of_mem_drop hb)) hmm.1 (by rw [List.length_drop]; omega) w hG) rfl rfl ?_
                            refine e_as (show _ = Value.int .i64 (-1) by rw [hq]; rfl) ?_
                            refine (Qa)<|Qn<|Qs<|Qs<|Qp<|(Qm)<|(QE)<|Qn ?_
                            refine e_cond rfl ?_ ?_
                            · intro hc8
                              exact absurd (of_decide_eq_true hc8) (by decide)
                            · intro hc8
                              have hfin : ixp l = none := by rw [ixp_drop (i := i + 1) (by omega) hbn, hq]; rfl
                              refine Qk<|Qs<|Qp<|(Qa)<|Qn<|Qr ?_
                              rw [hfin]
                              exact ⟨_, rfl, .tmp rfl⟩
                          · skip
                            refine Qp<|(Qm)<|(Qm) ?_
                            refine e_sliceStr (i + 1) l.length (Uu 9) rfl rfl rfl ⟨_, rfl⟩ rfl (by omega) (by omega) rfl ?_
                            refine e_as (congrArg sv (show (l.drop (i + 1)).take (l.length - (i + 1)) = (l.drop (i + 1)) from List.take_of_length_le (by simp))) ?_
                            refine (Qm) ?_
                            refine e_callEG rfl (fun w hG => xindexS (l.drop (i + 1)) m (fun b hb => hl b (List.mem_of_mem_drop hb)) hmm.1 (by rw [List.length_drop]; omega) w hG) rfl rfl ?_
                            refine e_as (show _ = ii r by rw [hq]; rfl) ?_
                            refine (Qa)<|Qn<|Qs<|Qs<|Qp<|(Qm)<|(QE)<|Qn ?_
                            refine e_cond rfl ?_ ?_
                            · intro hc8
                              have hfin : ixp l = some (r + (i + 1)) := by rw [ixp_drop (i := i + 1) (by omega) hbn, hq]; rfl
                              refine Qs<|Qp<|(Qm)<|(Qm) ?_
                              refine e_add_i rfl rfl rfl (by have := ixp_lt hq; simp at this; omega) ?_
                              refine (Qa)<|Qn<|Qr ?_
                              rw [hfin]
                              exact ⟨_, rfl, .tmp rfl⟩
                            · intro hc8
                              exact absurd (of_decide_eq_false hc8) (by omega)
                        · intro hc7
                          refine Qs<|Qp ?_
                          refine e_join [(0, _), (1, _), (5, _), (6, _), (7, _), (8, _), (9, _), (10, _), (57, _), (58, _), (59, _), (60, _), (61, _), (62, _), (63, _), (64, _), (93, _), (95, _), (96, _), (97, _), (98, _), (107, _)] [(132, .bool (decide (m < ((3 : Nat) : Int)) && decide (((4 + (i + 1) / 2 ^ 4 : Nat) : Int) ≤ ((f + 1 : Nat) : Int)) && decide (((i + 1 : Nat) : Int) < ((l.length - 3 + 1) : Nat))))] [] ⟨rfl, rfl, rfl, rfl, rfl, rfl, rfl, rfl, rfl, rfl, rfl, rfl, rfl, rfl, rfl, rfl, rfl, rfl, rfl, rfl, rfl, rfl, trivial⟩ trivial ?_ ?_
                          · skip
                            refine (Qm) ?_
                            refine e_load1g (i := 0) (Uu 3) rfl rfl rfl rfl rfl ?_
                            refine (QG)<|(Qm) ?_
                            refine e_case (fun hb4 => ?_) (fun hb4 => ?_)
                            · skip
                              refine (Qy)<|(Qm)<|(Qy)<|(Qm)<|(Qy) ?_
                              refine e_shr_i (s := 4) rfl rfl rfl (by omega) ?_
                              refine (Qy) ?_
                              refine e_add_i (p := 4) rfl rfl rfl (by omega) ?_
                              refine (Qy)<|(QE)<|(QT)<|(Qm) ?_
                              refine e_case (fun hb5 => ?_) (fun hb5 => ?_)
                              · skip
                                refine (Qy)<|(Qm)<|(Qy)<|(Qm)<|(Qy)<|(Ql)<|(QT)<|Qn ?_
                                exact ⟨⟨rfl, rfl, rfl, rfl, rfl, rfl, rfl, rfl, rfl, rfl, rfl, rfl, rfl, rfl, rfl, rfl, rfl, rfl, rfl, rfl, rfl, rfl, trivial⟩, ⟨bool_fin (by rw [hb4, hb5] <;> rfl), trivial⟩, trivial⟩
                              · skip
                                refine (Qo)<|(Qo)<|(Qo)<|(QF)<|Qn ?_
                                exact ⟨⟨rfl, rfl, rfl, rfl, rfl, rfl, rfl, rfl, rfl, rfl, rfl, rfl, rfl, rfl, rfl, rfl, rfl, rfl, rfl, rfl, rfl, rfl, trivial⟩, ⟨bool_fin (by rw [hb4, hb5] <;> rfl), trivial⟩, trivial⟩
                            · skip
                              refine (Qo)<|(Qo)<|(Qo)<|(Qo)<|(Qo)<|(QF)<|(Qm)<|(Qo)<|(Qo)<|(Qo)<|(QF)<|Qn ?_
                              exact ⟨⟨rfl, rfl, rfl, rfl, rfl, rfl, rfl, rfl, rfl, rfl, rfl, rfl, rfl, rfl, rfl, rfl, rfl, rfl, rfl, rfl, rfl, rfl, trivial⟩, ⟨bool_fin (by rw [hb4] <;> rfl), trivial⟩, trivial⟩
                          · simp only [catE]
                            refine e_cond rfl ?_ ?_
                            · intro hc9
                              have hm3 := and3_true hc9
                              refine Qs ?_
                              rcases ixp_cases (l.drop (i + 1)) with hq | ⟨r, hq⟩
                              · skip
                                refine Qp<|(Qm)<|(Qm) ?_
                                refine e_sliceStr (i + 1) l.length (Uu 9) rfl rfl rfl ⟨_, rfl⟩ rfl (by omega) (by omega) rfl ?_
                                refine e_as (congrArg sv (show (l.drop (i + 1)).take (l.length - (i + 1)) = (l.drop (i + 1)) from List.take_of_length_le (by simp))) ?_
                                refine (Qm) ?_
                                refine e_call rfl (Un 149) (rabin_psk (l.drop (i + 1)) (fun b hb => hl b (List.mem_of_mem_drop hb)) (by rw [List.length_drop]; omega) (by rw [List.length_drop]; omega)) rfl rfl ?_
                                refine e_as (show _ = Value.int .i64 (-1) by rw [hq]; rfl) ?_
                                refine (Qa)<|Qn<|Qs<|Qs<|Qp<|(Qm)<|(Ql)<|Qn ?_
                                refine e_cond rfl ?_ ?_
                                · intro hc10
                                  have hfin : ixp l = none := by rw [ixp_drop (i := i + 1) (by omega) hbn, hq]; rfl
                                  refine Qs<|Qp<|(Qa)<|Qn<|Qr ?_
                                  rw [hfin]
                                  exact ⟨_, rfl, .tmp rfl⟩
                                · intro hc10
                                  exact absurd (of_decide_eq_false hc10) (by decide)
                              · skip
                                refine Qp<|(Qm)<|(Qm) ?_
                                refine e_sliceStr (i + 1) l.length (Uu 9) rfl rfl rfl ⟨_, rfl⟩ rfl (by omega) (by omega) rfl ?_
                                refine e_as (congrArg sv (show (l.drop (i + 1)).take (l.length - (i + 1)) = (l.drop (i + 1)) from List.take_of_length_le (by simp))) ?_
                                refine (Qm) ?_
                                refine e_call rfl (Un 149) (rabin_psk (l.drop (i + 1)) (fun b hb => hl b (List.mem_of_mem_drop hb)) (by rw [List.length_drop]; omega) (by rw [List.length_drop]; omega)) rfl rfl ?_
                                refine e_as (show _ = ii r by rw [hq]; rfl) ?_
                                refine (Qa)<|Qn<|Qs<|Qs<|Qp<|(Qm)<|(Ql)<|Qn ?_
                                refine e_cond rfl ?_ ?_
                                · intro hc10
                                  exact absurd (of_decide_eq_true hc10) (by omega)
                                · intro hc10
                                  have hfin : ixp l = some (i + 1 + r) := by rw [ixp_drop (i := i + 1) (by omega) hbn, hq]; exact congrArg some (Nat.add_comm _ _)
                                  refine Qk<|Qs<|Qp<|(Qm)<|(Qm) ?_
                                  refine e_add_i rfl rfl rfl (by have := ixp_lt hq; simp at this; omega) ?_
                                  refine (Qa)<|Qn<|Qr ?_
                                  rw [hfin]
                                  exact ⟨_, rfl, .tmp rfl⟩
                            · intro hc9
                              refine Qk ?_
                              refine QzL ⟨_, _, rfl, rfl, rfl, (by omega), hbn⟩ ⟨rfl, rfl, rfl, rfl, rfl, rfl, rfl, rfl, trivial⟩ trivial ?_
                              omega
              · skip
                refine Qp<|(Qm)<|(Qm) ?_
                refine e_idxStr (Uu 9) rfl rfl (at_getD (show i < l.length by omega)) (getD_b hl _) rfl ?_
                refine (Qm)<|(QN)<|Qn ?_
                refine e_cond rfl ?_ ?_
                · intro hc5
                  skip
                  refine Qs<|Qp<|(Qm)<|(Qm)<|(Q2 1)<|(Qm) ?_
                  refine e_sliceStr (i + 1) (l.length - 3 + 1) (Uu 9) rfl rfl rfl ⟨_, rfl⟩ ⟨_, rfl⟩ (by omega) (by omega) rfl ?_
                  refine (Qm) ?_
                  refine e_call rfl (Un 146) (ixbyte_fn ((l.drop (i + 1)).take ((l.length - 3 + 1) - (i + 1))) 112 (fun b hb => hl b (List.mem_of_mem_drop (List.mem_of_mem_take hb))) (by decide)) rfl rfl ?_
                  refine e_as (show _ = Value.int .i64 (-1) by rw [ho]; rfl) ?_
                  refine (Qa)<|Qn<|Qs<|Qs<|Qp<|(Qm)<|(Ql)<|Qn ?_
                  refine e_cond rfl ?_ ?_
                  · intro hc11
                    have hfin := ixp_none (oc_end rfl h112 hf0_1 ho)
                    refine Qs<|Qp<|(Qa)<|Qn<|Qr ?_
                    rw [hfin]
                    exact ⟨_, rfl, .tmp rfl⟩
                  · intro hc11
                    exact absurd (of_decide_eq_false hc11) (by decide)
                · intro hc5
                  exact absurd (of_decide_eq_false hc5) (by omega)
              · skip
                refine Qp<|(Qm)<|(Qm) ?_
                refine e_idxStr (Uu 9) rfl rfl (at_getD (show i < l.length by omega)) (getD_b hl _) rfl ?_
                refine (Qm)<|(QN)<|Qn ?_
                refine e_cond rfl ?_ ?_
                · intro hc5
                  skip
                  refine Qs<|Qp<|(Qm)<|(Qm)<|(Q2 1)<|(Qm) ?_
                  refine e_sliceStr (i + 1) (l.length - 3 + 1) (Uu 9) rfl rfl rfl ⟨_, rfl⟩ ⟨_, rfl⟩ (by omega) (by omega) rfl ?_
                  refine (Qm) ?_
                  refine e_call rfl (Un 146) (ixbyte_fn ((l.drop (i + 1)).take ((l.length - 3 + 1) - (i + 1))) 112 (fun b hb => hl b (List.mem_of_mem_drop (List.mem_of_mem_take hb))) (by decide)) rfl rfl ?_
                  refine e_as (show _ = ii o by rw [ho]; rfl) ?_
                  refine (Qa)<|Qn<|Qs<|Qs<|Qp<|(Qm)<|(Ql)<|Qn ?_
                  refine e_cond rfl ?_ ?_
                  · intro hc11
                    exact absurd (of_decide_eq_true hc11) (by omega)
                  · intro hc11
                    refine Qk<|Qp<|(Qm)<|(Qm) ?_
                    have hol : o < min ((l.length - 3 + 1) - (i + 1)) (l.length - (i + 1)) := (by have h9 := (ixb_at ho).1; simpa using h9)
                    refine (Q2 1)<|(Q3) ?_
                    refine e_gen_i fun e he => ?_
                    have hbe : ∀ j, j < e → ¬ oc l j := by rw [he]; exact oc_skip h112 hf0_1 ho
                    refine (Qa)<|Qn<|Qs<|Qs<|Qp ?_
                    refine e_join [(0, _), (1, _), (5, _), (6, _), (7, _), (8, _), (9, _), (10, _), (11, _), (57, _), (58, _), (59, _), (60, _), (61, _), (62, _), (63, _), (64, _), (65, _), (66, _), (67, _), (68, _), (69, _), (70, _), (71, _), (72, _), (73, _), (74, _), (75, _), (76, _), (77, _)] [(93, .bool (decide (oc l e)))] [] ⟨rfl, rfl, rfl, rfl, rfl, rfl, rfl, rfl, rfl, rfl, rfl, rfl, rfl, rfl, rfl, rfl, rfl, rfl, rfl, rfl, rfl, rfl, rfl, rfl, rfl, rfl, rfl, rfl, rfl, rfl, trivial⟩ trivial ?_ ?_
                    · skip
                      refine (Qm)<|(Qm)<|(Q2 1) ?_
                      refine e_idxStr (Uu 9) rfl rfl (at_getD (show e + 1 < l.length by omega)) (getD_b hl _) rfl ?_
                      refine (Qm)<|(Qc)<|(Qm) ?_
                      refine e_case (fun hb6 => ?_) (fun hb6 => ?_)
                      · skip
                        refine (Qy)<|(Qm)<|(Qy)<|(Qm)<|(Qy)<|(Qm)<|(Qy)<|(Qm)<|(Qy)<|(Q3)<|(Qy) ?_
                        refine e_sliceStr e (e + 3) (Uu 9) rfl rfl rfl ⟨_, rfl⟩ ⟨_, rfl⟩ (by omega) (by omega) rfl ?_
                        refine e_as (congrArg (fun z => sv ((l.drop e).take z)) (show e + 3 - e = 3 by omega)) ?_
                        refine (Qy)<|(Qm)<|(Qy) ?_
                        refine e_eqStr rfl rfl rfl (fun b hb => hl b (List.mem_of_mem_drop (List.mem_of_mem_take hb))) (by decide) ?_
                        refine (QT)<|Qn ?_
                        exact ⟨⟨rfl, rfl, rfl, rfl, rfl, rfl, rfl, rfl, rfl, rfl, rfl, rfl, rfl, rfl, rfl, rfl, rfl, rfl, rfl, rfl, rfl, rfl, rfl, rfl, rfl, rfl, rfl, rfl, rfl, rfl, trivial⟩, ⟨bool_fin (by first | exact (decide_eq_false (fun x => of_decide_eq_false hb6 (by have := (oc_at x).2.1; omega))).symm | rfl), trivial⟩, trivial⟩
                      · skip
                        refine (Qo)<|(Qo)<|(Qo)<|(Qo)<|(Qo)<|(Qo)<|(Qo)<|(Qo)<|(QF)<|Qn ?_
                        exact ⟨⟨rfl, rfl, rfl, rfl, rfl, rfl, rfl, rfl, rfl, rfl, rfl, rfl, rfl, rfl, rfl, rfl, rfl, rfl, rfl, rfl, rfl, rfl, rfl, rfl, rfl, rfl, rfl, rfl, rfl, rfl, trivial⟩, ⟨bool_fin (by first | exact (decide_eq_false (fun x => of_decide_eq_false hb6 (by have := (oc_at x).2.1; omega))).symm | rfl), trivial⟩, trivial⟩
                    · simp only [catE]
                      refine e_cond rfl ?_ ?_
                      · intro hc6
                        have hoc := of_decide_eq_true hc6
                        have hfin := ixp_first hoc hbe
                        refine Qs<|Qp<|(Qm)<|(Qa)<|Qn<|Qr ?_
                        rw [hfin]
                        exact ⟨_, rfl, .tmp rfl⟩
                      · intro hc6
                        have hbn := oc_next hbe (of_decide_eq_false hc6)
                        refine Qk<|Qs<|Qp<|(Qm)<|(Q2 1)<|(Qa)<|Qn<|Qs<|Qp<|(Qm)<|(Q2 1)<|(Qa)<|Qn<|Qs<|Qp ?_
                        refine e_join [(0, _), (1, _), (5, _), (6, _), (7, _), (8, _), (9, _), (10, _), (11, _), (57, _), (58, _), (59, _), (60, _), (61, _), (62, _), (63, _), (64, _), (65, _), (66, _), (67, _), (68, _), (69, _), (70, _), (71, _), (72, _), (73, _), (74, _), (75, _), (76, _), (77, _), (93, _), (95, _), (96, _), (97, _), (98, _)] [(107, .bool (decide (((3 : Nat) : Int) ≤ m) && decide ((((e + 1 + 16) / 8 : Nat) : Int) < ((f + 1 : Nat) : Int))))] [] ⟨rfl, rfl, rfl, rfl, rfl, rfl, rfl, rfl, rfl, rfl, rfl, rfl, rfl, rfl, rfl, rfl, rfl, rfl, rfl, rfl, rfl, rfl, rfl, rfl, rfl, rfl, rfl, rfl, rfl, rfl, rfl, rfl, rfl, rfl, rfl, trivial⟩ trivial ?_ ?_
                        · skip
                          refine (Qm) ?_
                          refine e_load1g (i := 0) (Uu 3) rfl rfl rfl rfl rfl ?_
                          refine (QL)<|(Qm) ?_
                          refine e_case (fun hb7 => ?_) (fun hb7 => ?_)
                          · skip
                            refine (Qy)<|(Qm)<|(Qy)<|(Qm)<|(Qy) ?_
                            refine e_call rfl (Un 148) (cutover_fn (e + 1) (by omega)) rfl rfl ?_
                            refine (Qy)<|(QG)<|(QT)<|Qn ?_
                            exact ⟨⟨rfl, rfl, rfl, rfl, rfl, rfl, rfl, rfl, rfl, rfl, rfl, rfl, rfl, rfl, rfl, rfl, rfl, rfl, rfl, rfl, rfl, rfl, rfl, rfl, rfl, rfl, rfl, rfl, rfl, rfl, rfl, rfl, rfl, rfl, rfl, trivial⟩, ⟨bool_fin (by rw [hb7] <;> rfl), trivial⟩, trivial⟩
                          · skip
                            refine (Qo)<|(Qo)<|(Qo)<|(Qo)<|(QF)<|Qn ?_
                            exact ⟨⟨rfl, rfl, rfl, rfl, rfl, rfl, rfl, rfl, rfl, rfl, rfl, rfl, rfl, rfl, rfl, rfl, rfl, rfl, rfl, rfl, rfl, rfl, rfl, rfl, rfl, rfl, rfl, rfl, rfl, rfl, rfl, rfl, rfl, rfl, rfl, trivial⟩, ⟨bool_fin (by rw [hb7] <;> rfl), trivial⟩, trivial⟩
                        · simp only [catE]
                          refine e_cond rfl ?_ ?_
                          · intro hc7
                            have hmm := and2_true hc7
                            refine Qs ?_
                            rcases ixp_cases (l.drop (e + 1)) with hq | ⟨r, hq⟩
                            · skip
                              refine Qp<|(Qm)<|(Qm) ?_
                              refine e_sliceStr (e + 1) l.length (Uu 9) rfl rfl rfl ⟨_, rfl⟩ rfl (by omega) (by omega) rfl ?_
                              refine e_as (congrArg sv (show (l.drop (e + 1)).take (l.length - (e + 1)) = (l.drop (e + 1)) from List.take_of_length_le (by simp))) ?_
                              refine (Qm) ?_
                              refine e_callEG rfl (fun w hG => xindexS (l.drop (e + 1)) m (fun b hb => hl b (List.mem_of_mem_drop hb)) hmm.1 (by rw [List.length_drop]; omega) w hG) rfl rfl ?_
                              refine e_as (show _ = Value.int .i64 (-1) by rw [hq]; rfl) ?_
                              refine (Qa)<|Qn<|Qs<|Qs<|Qp<|(Qm)<|(QE)<|Qn ?_
                              refine e_cond rfl ?_ ?_
                              · intro hc8
                                exact absurd (of_decide_eq_true hc8) (by decide)
                              · intro hc8
                                have hfin : ixp l = none := by rw [ixp_drop (i := e + 1) (by omega) hbn, hq]; rfl
                                refine Qk<|Qs<|Qp<|(Qa)<|Qn<|Qr ?_
                                rw [hfin]
                                exact ⟨_, rfl, .tmp rfl⟩
                            · skip
                              refine Qp<|(Qm)<|(Qm) ?_
                              refine e_sliceStr (e + 1) l.length (Uu 9) rfl rfl rfl ⟨_, rfl⟩ rfl (by omega) (by omega) rfl ?_
                              refine e_as (congrArg sv (show (l.drop (e + 1)).take (l.length - (e + 1)) = (l.drop (e + 1)) from List.take_of_length_le (by simp))) ?_
                              refine (Qm) ?_
                              refine e_callEG rfl (fun w hG => xindexS (l.drop (e + 1)) m (fun b hb => hl b (List.mem_of_mem_drop hb)) hmm.1 (by rw [List.length_drop]; omega) w hG) rfl rfl ?_
                              refine e_as (show _ = ii r by rw [hq]; rfl) ?_
                              refine (Qa)<|Qn<|Qs<|Qs<|Qp<|(Qm)<|(QE)<|Qn ?_
                              refine e_cond rfl ?_ ?_
                              · intro hc8
                                have hfin : ixp l = some (r + (e + 1)) := by rw [ixp_drop (i := e + 1) (by omega) hbn, hq]; rfl
                                refine Qs<|Qp<|(Qm)<|(Qm) ?_
                                refine e_add_i rfl rfl rfl (by have := ixp_lt hq; simp at this; omega) ?_
                                refine (Qa)<|Qn<|Qr ?_
                                rw [hfin]
                                exact ⟨_, rfl, .tmp rfl⟩
                              · intro hc8
                                exact absurd (of_decide_eq_false hc8) (by omega)
                          · intro hc7
                            refine Qs<|Qp ?_
                            refine e_join [(0, _), (1, _), (5, _), (6, _), (7, _), (8, _), (9, _), (10, _), (11, _), (57, _), (58, _), (59, _), (60, _), (61, _), (62, _), (63, _), (64, _), (65, _), (66, _), (67, _), (68, _), (69, _), (70, _), (71, _), (72, _), (73, _), (74, _), (75, _), (76, _), (77, _), (93, _), (95, _), (96, _), (97, _), (98, _), (107, _)] [(132, .bool (decide (m < ((3 : Nat) : Int)) && decide (((4 + (e + 1) / 2 ^ 4 : Nat) : Int) ≤ ((f + 1 : Nat) : Int)) && decide (((e + 1 : Nat) : Int) < ((l.length - 3 + 1) : Nat))))] [] ⟨rfl, rfl, rfl, rfl, rfl, rfl, rfl, rfl, rfl, rfl, rfl, rfl, rfl, rfl, rfl, rfl, rfl, rfl, rfl, rfl, rfl, rfl, rfl, rfl, rfl, rfl, rfl, rfl, rfl, rfl, rfl, rfl, rfl, rfl, rfl, rfl, trivial⟩ trivial ?_ ?_
                            · skip
                              refine (Qm) ?_
                              refine e_load1g (i := 0) (Uu 3) rfl rfl rfl rfl rfl ?_
                              refine (QG)<|(Qm) ?_
                              refine e_case (fun hb8 => ?_) (fun hb8 => ?_)
                              · skip
                                refine (Qy)<|(Qm)<|(Qy)<|(Qm)<|(Qy) ?_
                                refine e_shr_i (s := 4) rfl rfl rfl (by omega) ?_
                                refine (Qy) ?_
                                refine e_add_i (p := 4) rfl rfl rfl (by omega) ?_
                                refine (Qy)<|(QE)<|(QT)<|(Qm) ?_
                                refine e_case (fun hb9 => ?_) (fun hb9 => ?_)
                                · skip
                                  refine (Qy)<|(Qm)<|(Qy)<|(Qm)<|(Qy)<|(Ql)<|(QT)<|Qn ?_
                                  exact ⟨⟨rfl, rfl, rfl, rfl, rfl, rfl, rfl, rfl, rfl, rfl, rfl, rfl, rfl, rfl, rfl, rfl, rfl, rfl, rfl, rfl, rfl, rfl, rfl, rfl, rfl, rfl, rfl, rfl, rfl, rfl, rfl, rfl, rfl, rfl, rfl, rfl, trivial⟩, ⟨bool_fin (by rw [hb8, hb9] <;> rfl), trivial⟩, trivial⟩
                                · skip
                                  refine (Qo)<|(Qo)<|(Qo)<|(QF)<|Qn ?_
                                  exact ⟨⟨rfl, rfl, rfl, rfl, rfl, rfl, rfl, rfl, rfl, rfl, rfl, rfl, rfl, rfl, rfl, rfl, rfl, rfl, rfl, rfl, rfl, rfl, rfl, rfl, rfl, rfl, rfl, rfl, rfl, rfl, rfl, rfl, rfl, rfl, rfl, rfl, trivial⟩, ⟨bool_fin (by rw [hb8, hb9] <;> rfl), trivial⟩, trivial⟩
                              · skip
                                refine (Qo)<|(Qo)<|(Qo)<|(Qo)<|(Qo)<|(QF)<|(Qm)<|(Qo)<|(Qo)<|(Qo)<|(QF)<|Qn ?_
                                exact ⟨⟨rfl, rfl, rfl, rfl, rfl, rfl, rfl, rfl, rfl, rfl, rfl, rfl, rfl, rfl, rfl, rfl, rfl, rfl, rfl, rfl, rfl, rfl, rfl, rfl, rfl, rfl, rfl, rfl, rfl, rfl, rfl, rfl, rfl, rfl, rfl, rfl, trivial⟩, ⟨bool_fin (by rw [hb8] <;> rfl), trivial⟩, trivial⟩
                            · simp only [catE]
                              refine e_cond rfl ?_ ?_
                              · intro hc9
                                have hm3 := and3_true hc9
                                refine Qs ?_
                                rcases ixp_cases (l.drop (e + 1)) with hq | ⟨r, hq⟩
                                · skip
                                  refine Qp<|(Qm)<|(Qm) ?_
                                  refine e_sliceStr (e + 1) l.length (Uu 9) rfl rfl rfl ⟨_, rfl⟩ rfl (by omega) (by omega) rfl ?_
                                  refine e_as (congrArg sv (show (l.drop (e + 1)).take (l.length - (e + 1)) = (l.drop (e + 1)) from List.take_of_length_le (by simp))) ?_
                                  refine (Qm) ?_
                                  refine e_call rfl (Un 149) (rabin_psk (l.drop (e + 1)) (fun b hb => hl b (List.mem_of_mem_drop hb)) (by rw [List.length_drop]; omega) (by rw [List.length_drop]; omega)) rfl rfl ?_
                                  refine e_as (show _ = Value.int .i64 (-1) by rw [hq]; rfl) ?_
                                  refine (Qa)<|Qn<|Qs<|Qs<|Qp<|(Qm)<|(Ql)<|Qn ?_
                                  refine e_cond rfl ?_ ?_
                                  · intro hc10
                                    have hfin : ixp l = none := by rw [ixp_drop (i := e + 1) (by omega) hbn, hq]; rfl
                                    refine Qs<|Qp<|(Qa)<|Qn<|Qr ?_
                                    rw [hfin]
                                    exact ⟨_, rfl, .tmp rfl⟩
                                  · intro hc10
                                    exact absurd (of_decide_eq_false hc10) (by decide)
                                · skip
                                  refine Qp<|(Qm)<|(Qm) ?_
                                  refine e_sliceStr (e + 1) l.length (Uu 9) rfl rfl rfl ⟨_, rfl⟩ rfl (by omega) (by omega) rfl ?_
                                  refine e_as (congrArg sv (show (l.drop (e + 1)).take (l.length - (e + 1)) = (l.drop (e + 1)) from List.take_of_length_le (by simp))) ?_
                                  refine (Qm) ?_
                                  refine e_call rfl (Un 149) (rabin_psk (l.drop (e + 1)) (fun b hb => hl b (List.mem_of_mem_drop hb)) (by rw [List.length_drop]; omega) (by rw [List.length_drop]; omega)) rfl rfl ?_
                                  refine e_as (show _ = ii r by rw [hq]; rfl) ?_
                                  refine (Qa)<|Qn<|Qs<|Qs<|Qp<|(Qm)<|(Ql)<|Qn ?_
                                  refine e_cond rfl ?_ ?_
                                  · intro hc10
                                    exact absurd (of_decide_eq_true hc10) (by omega)
                                  · intro hc10
                                    have hfin : ixp l = some (e + 1 + r) := by rw [ixp_drop (i := e + 1) (by omega) hbn, hq]; exact congrArg some (Nat.add_comm _ _)
                                    refine Qk<|Qs<|Qp<|(Qm)<|(Qm) ?_
                                    refine e_add_i rfl rfl rfl (by have := ixp_lt hq; simp at this; omega) ?_
                                    refine (Qa)<|Qn<|Qr ?_
                                    rw [hfin]
                                    exact ⟨_, rfl, .tmp rfl⟩
                              · intro hc9
                                refine Qk ?_
                                refine QzL ⟨_, _, rfl, rfl, rfl, (by omega), hbn⟩ ⟨rfl, rfl, rfl, rfl, rfl, rfl, rfl, rfl, trivial⟩ trivial ?_
                                omega
                · intro hc5
                  exact absurd (of_decide_eq_false hc5) (by omega)
            · intro hc4
              have hit := of_decide_eq_false hc4
              have hfin := ixp_none (l := l) (fun j x => hf0_1 j (by have := oc_len x; omega) x)
              refine Qe<|Qs<|Qp<|(Qa)<|Qn<|Qr ?_
              rw [hfin]
              exact ⟨_, rfl, .tmp rfl⟩
set_option maxHeartbeats 400000 in
theorem indexP_fn (l : List Nat) (m : Int) (hl : ∀ b ∈ l, b < 256) (hz : l.length < 4294967281) : Fn Tryz.prog (MLB m :: G) 59 #[sv l, sv PSK] (ixv (ixp l)) := by
  refine Qf1 Tryz.func59 ?_
  refine Qs<|Qp<|(Qa)<|Qn<|Qs<|Qp<|(Qm)<|(Qm) ?_
  refine e_call rfl (Un 96) (lindexP_fn l m hl hz) rfl rfl ?_
  refine (Qa)<|Qn<|Qr ?_
  exact ⟨_, rfl, .tmp rfl⟩
end Go.Proofs.YthljakcegoohlaaGreatDoor
namespace Go.Proofs.YthljakcegoohlaaGreatDoor
open Go Go.RowKit
variable {G : Mem}
set_option maxHeartbeats 2000000 in
theorem apart_bad (n : List Nat) (m : Int) (hn8 : ∀ b ∈ n, b < 256) (hz : n.length < 4294967281) (hb : bad1 n = true) : Fn Tryz.prog (MLB m :: G) 55 #[sv n] (.tuple #[sv [], nilS, .bool false]) := by
  have hmid : ∀ b ∈ midN n, b < 256 := fun b hb => hn8 b (List.mem_of_mem_drop (List.mem_of_mem_take hb))
  have hml : (midN n).length ≤ n.length := by unfold midN; simp; omega
  have hcl := cutP_len n hdN
  refine Qf3 Tryz.func55 ?_
  refine Qs<|Qp ?_
  refine e_assign (v := sv []) rfl rfl ?_
  refine (Qa)<|(Qa)<|Qn<|Qs<|Qp<|(Qm) ?_
  refine e_call rfl (Un 88) (cutpre_fn n hdN hn8 (by decide)) rfl rfl ?_
  refine (Qm)<|(Qx)<|(Qx)<|(Qa)<|(Qa)<|Qn<|Qs<|Qp<|(Qm) ?_
  refine e_call rfl (Un 89) (cutsuf_fn (cutP n hdN) tlN (fun b hb => hn8 b (cutP_mem hb)) (by decide) (by omega)) rfl rfl ?_
  refine (Qm)<|(Qx)<|(Qx)<|(Qa)<|(Qa)<|Qn<|Qs<|Qs<|Qp ?_
  refine e_join [(0, _), (2, _), (3, _), (4, _), (5, _), (6, _), (7, _), (11, _), (12, _), (13, _), (14, _), (15, _), (16, _), (17, _), (18, _), (19, _), (20, _)] [(26, .bool (bad1 n))] [] ⟨rfl, rfl, rfl, rfl, rfl, rfl, rfl, rfl, rfl, rfl, rfl, rfl, rfl, rfl, rfl, rfl, rfl, trivial⟩ trivial ?_ ?_
  · skip
    refine (Qm)<|(Q0)<|(Qm) ?_
    refine e_case (b := !(hasP n hdN)) (fun hb0 => ?_) (fun hb0 => ?_)
    · skip
      refine (Qo)<|(Qo)<|(QT)<|Qn ?_
      exact ⟨⟨rfl, rfl, rfl, rfl, rfl, rfl, rfl, rfl, rfl, rfl, rfl, rfl, rfl, rfl, rfl, rfl, rfl, trivial⟩, ⟨bool_fin (by rw [bad1_cut, hb0] <;> rfl), trivial⟩, trivial⟩
    · skip
      refine (Qy)<|(Qm)<|(Qy)<|(Q0)<|(QF)<|Qn ?_
      exact ⟨⟨rfl, rfl, rfl, rfl, rfl, rfl, rfl, rfl, rfl, rfl, rfl, rfl, rfl, rfl, rfl, rfl, rfl, trivial⟩, ⟨bool_fin (by rw [bad1_cut, hb0] <;> rfl), trivial⟩, trivial⟩
  · simp only [catE]
    refine e_cond rfl ?_ ?_
    · intro hc0
      refine Qs<|Qp ?_
      refine e_assign (v := sv []) rfl rfl ?_
      refine (Qa)<|(Qa)<|Qn<|Qr ?_
      exact ⟨_, _, _, rfl, .tmp rfl, .tmp rfl, .tmp rfl⟩
    · intro hc0
      rw [hb] at hc0
      cases hc0
set_option maxHeartbeats 2000000 in
theorem apart_none (n : List Nat) (m : Int) (hn8 : ∀ b ∈ n, b < 256) (hz : n.length < 4294967281) (hb : bad1 n = false) (hi : ixp (midN n) = none) : Fn Tryz.prog (MLB m :: G) 55 #[sv n] (.tuple #[sv (midN n), nilS, .bool true]) := by
  have hmid : ∀ b ∈ midN n, b < 256 := fun b hb => hn8 b (List.mem_of_mem_drop (List.mem_of_mem_take hb))
  have hml : (midN n).length ≤ n.length := by unfold midN; simp; omega
  have hcl := cutP_len n hdN
  refine Qf3 Tryz.func55 ?_
  refine Qs<|Qp ?_
  refine e_assign (v := sv []) rfl rfl ?_
  refine (Qa)<|(Qa)<|Qn<|Qs<|Qp<|(Qm) ?_
  refine e_call rfl (Un 88) (cutpre_fn n hdN hn8 (by decide)) rfl rfl ?_
  refine (Qm)<|(Qx)<|(Qx)<|(Qa)<|(Qa)<|Qn<|Qs<|Qp<|(Qm) ?_
  refine e_call rfl (Un 89) (cutsuf_fn (cutP n hdN) tlN (fun b hb => hn8 b (cutP_mem hb)) (by decide) (by omega)) rfl rfl ?_
  refine (Qm)<|(Qx)<|(Qx)<|(Qa)<|(Qa)<|Qn<|Qs<|Qs<|Qp ?_
  refine e_join [(0, _), (2, _), (3, _), (4, _), (5, _), (6, _), (7, _), (11, _), (12, _), (13, _), (14, _), (15, _), (16, _), (17, _), (18, _), (19, _), (20, _)] [(26, .bool (bad1 n))] [] ⟨rfl, rfl, rfl, rfl, rfl, rfl, rfl, rfl, rfl, rfl, rfl, rfl, rfl, rfl, rfl, rfl, rfl, trivial⟩ trivial ?_ ?_
  · skip
    refine (Qm)<|(Q0)<|(Qm) ?_
    refine e_case (b := !(hasP n hdN)) (fun hb0 => ?_) (fun hb0 => ?_)
    · skip
      refine (Qo)<|(Qo)<|(QT)<|Qn ?_
      exact ⟨⟨rfl, rfl, rfl, rfl, rfl, rfl, rfl, rfl, rfl, rfl, rfl, rfl, rfl, rfl, rfl, rfl, rfl, trivial⟩, ⟨bool_fin (by rw [bad1_cut, hb0] <;> rfl), trivial⟩, trivial⟩
    · skip
      refine (Qy)<|(Qm)<|(Qy)<|(Q0)<|(QF)<|Qn ?_
      exact ⟨⟨rfl, rfl, rfl, rfl, rfl, rfl, rfl, rfl, rfl, rfl, rfl, rfl, rfl, rfl, rfl, rfl, rfl, trivial⟩, ⟨bool_fin (by rw [bad1_cut, hb0] <;> rfl), trivial⟩, trivial⟩
  · simp only [catE]
    refine e_cond rfl ?_ ?_
    · intro hc0
      rw [hb] at hc0
      cases hc0
    · intro hc0
      refine Qk<|Qs<|Qp<|(Qm) ?_
      refine e_as (congrArg sv (mid_cut hb)) ?_
      refine e_call rfl (Un 59) ((indexP_fn (G := []) (midN n) m hmid (by omega)).more (fun x hx => List.mem_cons.2 (.inl (List.mem_singleton.1 hx)))) rfl rfl ?_
      refine e_as (congrArg ixv hi) ?_
      refine (Qa)<|Qn<|Qs<|Qs<|Qp<|(Qm)<|(Ql)<|Qn ?_
      refine e_cond rfl ?_ ?_
      · intro hc1
        refine Qs<|Qp<|(Qm) ?_
        refine e_as (congrArg sv (mid_cut hb)) ?_
        refine (Qa)<|(Qa)<|(Qa)<|Qn<|Qr ?_
        exact ⟨_, _, _, rfl, .tmp rfl, .tmp rfl, .tmp rfl⟩
      · intro hc1
        exact absurd (of_decide_eq_false hc1) (by decide)
end Go.Proofs.YthljakcegoohlaaGreatDoor
