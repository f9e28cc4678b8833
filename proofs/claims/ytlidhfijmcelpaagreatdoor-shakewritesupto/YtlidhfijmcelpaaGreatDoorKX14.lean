import Derived.Test.YtlidhfijmcelpaaGreatDoorKX13
set_option maxHeartbeats 8000000
set_option maxRecDepth 30000
attribute [local simp] Go.Proofs.YtlidhfijmcelpaaGreatDoor.By Go.Proofs.YtlidhfijmcelpaaGreatDoor.L8
namespace Go.Proofs.YtlidhfijmcelpaaGreatDoor
open Go Go.RowKit
variable {G : Mem}
theorem z19 (hO : DOR ∈ G) (b : LN) (l : Bool) (vp v0 v1 vt : Value) (fi : Bool) (tq : Nat) (dd : Bool) (y : SY) (r : RS) (ow : NN) (vk : Value) (us : Nat) (ps : List (NN)) (hk : Shows G 32 vk ps.length (psC ps)) (hp : okP ps) (h1 : xU vp v0 v1 vt vk) (hy : okY y) (hr : okR r) (ho : B32 ow) (sc : NN) (hs : B32 sc) (q : LN) (tvs : List Value) (hvt : Shows G 1 vt tvs.length tvs) (htl : tq < tvs.length) (hq : Shows G 1 (tvs.getD tq undef) q.length ((ci q).map iv)) (hq7 : ∀ x ∈ q, 1 ≤ x ∧ x ≤ 7) (hq6 : q.length ≤ 6) (vx : Value) (tx : LN) (hvt2 : Sh G vx tx) (htb : By tx) (htx : tx.length ≤ 100000) (w : Nat × SS × LN) (hw : wR fi ow ps sc q (y, r, us) tx = w) : Fq G [] 29 #[.agg (shC b l vp v0 v1 vt fi ((tq : Nat) : Int) dd y ow r vk ((us : Nat) : Int)), .agg (arr .u8 32 sc), vx] (fun v l1 nw => l1 = [] ∧ ∃ v', v = .tuple #[.agg (shC b l vp v0 v1 vt fi ((tq : Nat) : Int) dd w.2.1.1 ow w.2.1.2.1 vk ((w.2.1.2.2 : Nat) : Int)), v', ii w.1] ∧ OwnS 5 1 v' w.2.2.length (w.2.2.map by8) nw) := by
 refine QfO Tryz.func29 ?_
 refine (g4)<|(Qh 0) fun r1=>(Qh 1) fun r2=>(QH 2) fun r3=>(g8)<|(gc)<|(gs)<|(Qf 0)<|(jd)<|(Qf 7)<|(QV 7 0) ?_
 refine yf hvt (Uu 27) (Uz 25) rfl rfl (by omega) rfl ?_
 refine (QS) ?_
 refine zS hvt ze (Uu 25) rfl rfl (xz (by omega)) rfl ?_
 refine (QC hq)<|(Qm)<|Qn<|Qb ?_
 refine z3n [(2, _), (3, _), (4, _), (6, _), (22, _), (23, _)] [(1, _), (2, _)] (fun kk E m fz => ∃ (i : Nat) (y1 : SY) (r1v : RS) (u1 : Nat) (out : List Nat) (w4 : Value) (oz : Option Blk), kk = q.length - i ∧ E = [(9, w4), (24, ii i)] ∧ m = [(0, (some ⟨r1, shC b l vp v0 v1 vt fi ((tq : Nat) : Int) dd y1 ow r1v vk ((u1 : Nat) : Int), 37⟩)), (50, oz), (51, none)] ∧ (i ≤ q.length) ∧ (OwnS 5 1 w4 out.length (out.map by8) (Option.toList oz)) ∧ (okS (y1, r1v, u1)) ∧ (wi fi ow ps sc q (y, r, us) [] = wi fi ow ps sc (q.drop i) (y1, r1v, u1) out) ∧ (out.length ≤ 48 * i)) (k := q.length - 0) (E0 := [(9, yg), (24, ii 0)]) (M0 := [(0, (some ⟨r1, shC b l vp v0 v1 vt fi ((tq : Nat) : Int) dd y ow r vk ((us : Nat) : Int), 37⟩)), (50, none), (51, none)]) (fz := []) ⟨0, y, r, us, [], yg, none, rfl, rfl, rfl, by omega, (wL _ _), ⟨hy, hr⟩, rfl, (by simp)⟩ ⟨rfl, rfl, rfl, rfl, rfl, rfl, rfl, rfl, trivial⟩ ⟨rfl, rfl, rfl, rfl, rfl, trivial⟩ (by repeat (first | exact zu | exact zw _ | apply zm rfl)) ?_
 rintro kk E m fz ⟨i, y1, r1v, u1, out, w4, oz, rfl, rfl, rfl, hf0_0, hf0_1, hf0_2, hf0_3, hf0_4⟩
 simp only [zq, zx]
 refine (gq) ?_
 refine (Qcd) (fun hc0=>?_) fun hc0=>?_
 ·have hc0 : i < q.length := by omega
  refine Qk<|Qs<|Qb<|(g4) ?_
  refine yf hq (Uu 25) (Uz 3) rfl rfl (by omega) rfl ?_
  refine (QS) ?_
  refine zS hq ze (Uu 3) rfl rfl (VY (by omega)) rfl ?_
  refine (g3) ?_
  have hx9 := z6o hq7 (show i < q.length by omega)
  obtain ⟨z, hz⟩ : ∃ z, vS fi ow ps sc (q.getD i 0) (y1, r1v, u1) = z := ⟨_, rfl⟩
  have hzl : z.2.2.length ≤ 48 := by rw [← hz]; exact XI
  have hst : z.1 ≠ 0 → w = (z.1, z.2.1, []) := fun he => by rw [← hw]; exact YX (hf0_3.trans (WV (by omega) hz he)) he
  refine (gc)<|(gc)<|Qs ?_
  by_cases he : z.1 = 0
  ·skip
   refine QR ⟨[], 4, [], none, none⟩<|(QD 0)<|(Qm)<|(Qd 1) ?_
   refine xg [(0, _), (1, _), (2, _), (50, _), (51, _)] (by repeat (first | exact zu | exact zw _ | apply zm rfl)) ⟨rfl, rfl, rfl, rfl, rfl, trivial⟩ rfl rfl rfl (Un 52) ze ((zid hO b l vp v0 v1 vt fi ((tq : Nat) : Int) dd y1 r1v ow vk u1 ps hk hp h1 hf0_2.1 hf0_2.2 ho sc hs (q.getD i 0) hx9.1 hx9.2 z hz).1 he) (z6x (fun v' => .tuple #[.agg (shC b l vp v0 v1 vt fi ((tq : Nat) : Int) dd z.2.1.1 ow z.2.1.2.1 vk ((z.2.1.2.2 : Nat) : Int)), v', ii 0]) z.2.2) rfl rfl fun v3_1 nw3_1 hD3_1 => ?_
   simp only [zx]
   obtain ⟨v9, rfl, hv9⟩ := hD3_1
   have hv9 := Shows.mono (B' := fz ++ nw3_1) hv9 (fun x hx => List.mem_append_right _ hx)
   refine (jn) ?_
   refine z5 (i := 0) (Uz 37) rfl rfl (z3 _ _) (z7 ⟨fun _ => rfl, fun _ => rfl, fun _ => h1.1, fun _ => h1.2.1, fun _ => h1.2.2.1, fun _ => h1.2.2.2.1, fun _ => rfl, fun _ => rfl, fun _ => rfl, fun _ => rfl, fun _ => rfl, fun _ => rfl, fun _ => rfl, fun _ => rfl, fun _ => rfl, fun _ => rfl, fun _ => rfl, fun _ => rfl, fun _ => rfl, fun _ => rfl, fun _ => rfl, fun _ => h1.2.2.2.2, fun _ => rfl, trivial⟩) rfl za (.inl rfl) ?_
   refine (ja)<|(QN) ?_
   refine (Ab (decide_eq_false (by decide)))<|(go)<|Qp<|(gb) ?_
   refine yB 50 hf0_1 hv9 rfl (yr (by repeat (first | exact zu | exact zw _ | apply zm rfl)) rfl) (Uu 22) (Uz 5) (Uy 5) (Ub 5) (by rfl) rfl rfl vm (by simp only [maxLen]; omega) (by omega) rfl fun v4_2 oz4_2 ho4_2 => ?_
   refine (jb) ?_
   refine VF (E'' := [(9, _), (24, ii (i + 1))]) (M'' := [(0, (some ⟨r1, shC b l vp v0 v1 vt fi ((tq : Nat) : Int) dd _ ow _ vk ((_ : Nat) : Int), 37⟩)), (50, _), (51, none)]) (fz' := (fz ++ nw3_1)) ⟨i + 1, _, _, _, out ++ z.2.2, _, _, rfl, rfl, rfl, by omega, (zy ho4_2 (by rw [List.length_append]) (by rw [List.map_append])), (by rw [← hz]; exact xA hf0_2 hs), (hf0_3.trans (xJ (by omega) (hz.trans (show z = (0, z.2.1, z.2.2) from Prod.ext he rfl)))), (by rw [List.length_append]; omega)⟩ ⟨rfl, rfl, rfl, rfl, rfl, rfl, rfl, rfl, trivial⟩ ⟨rfl, rfl, rfl, rfl, rfl, trivial⟩ (by repeat (first | exact zu | exact zw _ | apply zm rfl)) (by omega)
  ·skip
   refine Qp<|(QD 0)<|(Qm)<|(Qd 1) ?_
   refine (Ca ((zid hO b l vp v0 v1 vt fi ((tq : Nat) : Int) dd y1 r1v ow vk u1 ps hk hp h1 hf0_2.1 hf0_2.2 ho sc hs (q.getD i 0) hx9.1 hx9.2 z hz).2 he))<|(jn) ?_
   refine z5 (i := 0) (Uz 37) rfl rfl (z3 _ _) (z7 ⟨fun _ => rfl, fun _ => rfl, fun _ => h1.1, fun _ => h1.2.1, fun _ => h1.2.2.1, fun _ => h1.2.2.2.1, fun _ => rfl, fun _ => rfl, fun _ => rfl, fun _ => rfl, fun _ => rfl, fun _ => rfl, fun _ => rfl, fun _ => rfl, fun _ => rfl, fun _ => rfl, fun _ => rfl, fun _ => rfl, fun _ => rfl, fun _ => rfl, fun _ => rfl, fun _ => h1.2.2.2.2, fun _ => rfl, trivial⟩) rfl za (.inl rfl) ?_
   refine (ja)<|(QN)<|(Qat)<|(gv) ?_
   obtain rfl := hst he
   refine (gd)<|(Qm) ?_
   refine z5 (i := 2) (Uz 37) rfl rfl (z3 _ _) (z7 ⟨fun _ => rfl, fun _ => rfl, fun _ => h1.1, fun _ => h1.2.1, fun _ => h1.2.2.1, fun _ => h1.2.2.2.1, fun _ => rfl, fun _ => rfl, fun _ => rfl, fun _ => rfl, fun _ => rfl, fun _ => rfl, fun _ => rfl, fun _ => rfl, fun _ => rfl, fun _ => rfl, fun _ => rfl, fun _ => rfl, fun _ => rfl, fun _ => rfl, fun _ => rfl, fun _ => h1.2.2.2.2, fun _ => rfl, trivial⟩) rfl za (.inl rfl) ?_
   refine (h8) ?_
   exact ⟨_, _, _, _, _, 51, rfl, yb 2, yt, yt, (zy (wL _ _) (by first | rfl | rw [List.length_append]) (by first | rfl | rw [List.map_append])), rfl⟩
 ·have hz0 : i = q.length := by omega
  have hrun := hf0_3.trans (VX hz0)
  obtain ⟨e2, he2⟩ : ∃ e, yL y1 tx = e := ⟨_, rfl⟩
  have hfin : w = (e2.1, (e2.2.1, r1v, u1), out ++ e2.2.2) := by rw [← hw]; exact V1 hrun he2
  have hel : e2.2.2.length ≤ tx.length + 16 := by rw [← he2]; exact wE y1 tx
  have hen : e2.1 ≠ 0 → e2.2.2 = [] := fun h => by rw [← he2] at h ⊢; exact zaI h
  subst hfin
  refine Qe<|Qs ?_
  by_cases h0 : e2.1 = 0
  ·skip
   refine QR ⟨[], 4, [], none, none⟩<|(QD 0)<|(Qm) ?_
   refine zG 3 (fun v => .tuple #[.agg (shC b l vp v0 v1 vt fi ((tq : Nat) : Int) dd e2.2.1 ow r1v vk ((u1 : Nat) : Int)), v, ii 0]) rfl rfl (Un 53) ze (z0A hO b l vp v0 v1 vt fi ((tq : Nat) : Int) dd y1 r1v ow vk ((u1 : Nat) : Int) h1 hf0_2.1 vx tx hvt2 htb e2 he2 htx h0) (by simp only [maxLen]; omega) (by rw [List.length_map, Nat.mul_one]) rfl rfl fun v3_1 oz3_1 ho3_1 => ?_
   refine (jn) ?_
   refine z5 (i := 0) (Uz 37) rfl rfl (z3 _ _) (z7 ⟨fun _ => rfl, fun _ => rfl, fun _ => h1.1, fun _ => h1.2.1, fun _ => h1.2.2.1, fun _ => h1.2.2.2.1, fun _ => rfl, fun _ => rfl, fun _ => rfl, fun _ => rfl, fun _ => rfl, fun _ => rfl, fun _ => rfl, fun _ => rfl, fun _ => rfl, fun _ => rfl, fun _ => rfl, fun _ => rfl, fun _ => rfl, fun _ => rfl, fun _ => rfl, fun _ => h1.2.2.2.2, fun _ => rfl, trivial⟩) rfl za (.inl rfl) ?_
   refine (g8)<|Qs<|(Qq ⟨[r3], 1, [], (some ([r1] ++ List.map Blk.b (fz))), none⟩) ?_
   refine zF (i := 0) (Uu 37) rfl (Uz 37) rfl rfl (z3 _ _) rfl ⟨[2], ⟨rfl, rfl, trivial⟩, _, rfl, by simp⟩ ?_
   refine (gb) ?_
   refine Yr 50 hf0_1 ho3_1.shows rfl (zh0 3 rfl) (z8J (js := [0]) rfl (by repeat (first | exact zu | exact zw _ | apply zm rfl)) ⟨rfl, rfl, trivial⟩) (Uu 22) (Uz 5) (Uy 5) (Ub 5) (by rfl) rfl rfl vm (by simp only [maxLen]; omega) (by omega) rfl fun v3_2 oz3_2 ho3_2 => ?_
   refine (Qm) ?_
   refine z5 (i := 2) (Uz 37) rfl rfl (z3 _ _) (z7 ⟨fun _ => rfl, fun _ => rfl, fun _ => h1.1, fun _ => h1.2.1, fun _ => h1.2.2.1, fun _ => h1.2.2.2.1, fun _ => rfl, fun _ => rfl, fun _ => rfl, fun _ => rfl, fun _ => rfl, fun _ => rfl, fun _ => rfl, fun _ => rfl, fun _ => rfl, fun _ => rfl, fun _ => rfl, fun _ => rfl, fun _ => rfl, fun _ => rfl, fun _ => rfl, fun _ => h1.2.2.2.2, fun _ => rfl, trivial⟩) rfl za (.inr (by simp)) ?_
   refine (Qa)<|(Qa) ?_
   refine z6 (show _ = ii e2.1 by rw [h0]; rfl) ?_
   refine Qn<|Qr ?_
   exact ⟨_, _, _, _, _, 50, rfl, yb 2, yt, yt, (zy ho3_2 (by first | rfl | rw [List.length_append]) (by first | rfl | rw [List.map_append])), rfl⟩
  ·skip
   refine Qp<|(QD 0)<|(Qm) ?_
   refine (Ca (Va hO b l vp v0 v1 vt fi ((tq : Nat) : Int) dd y1 r1v ow vk ((u1 : Nat) : Int) h1 hf0_2.1 vx tx hvt2 htb e2 he2 h0))<|(jn) ?_
   refine z5 (i := 0) (Uz 37) rfl rfl (z3 _ _) (z7 ⟨fun _ => rfl, fun _ => rfl, fun _ => h1.1, fun _ => h1.2.1, fun _ => h1.2.2.1, fun _ => h1.2.2.2.1, fun _ => rfl, fun _ => rfl, fun _ => rfl, fun _ => rfl, fun _ => rfl, fun _ => rfl, fun _ => rfl, fun _ => rfl, fun _ => rfl, fun _ => rfl, fun _ => rfl, fun _ => rfl, fun _ => rfl, fun _ => rfl, fun _ => rfl, fun _ => h1.2.2.2.2, fun _ => rfl, trivial⟩) rfl za (.inl rfl) ?_
   refine (g8)<|Qs<|(Qq ⟨[r3], 1, [], (some ([r1] ++ List.map Blk.b (fz))), none⟩) ?_
   refine zF (i := 0) (Uu 37) rfl (Uz 37) rfl rfl (z3 _ _) rfl ⟨[2], ⟨rfl, rfl, trivial⟩, _, rfl, by simp⟩ ?_
   refine (gb) ?_
   refine Yr 50 hf0_1 (show Shows [] 1 yg e2.2.2.length (e2.2.2.map by8) by rw [hen h0]; exact yI [] 1) rfl (fun _ h => by cases h) (z8J (js := [0]) rfl (by repeat (first | exact zu | exact zw _ | apply zm rfl)) ⟨rfl, rfl, trivial⟩) (Uu 22) (Uz 5) (Uy 5) (Ub 5) (by rfl) rfl rfl vm (by simp only [maxLen]; omega) (by omega) rfl fun v3_1 oz3_1 ho3_1 => ?_
   refine (Qm) ?_
   refine z5 (i := 2) (Uz 37) rfl rfl (z3 _ _) (z7 ⟨fun _ => rfl, fun _ => rfl, fun _ => h1.1, fun _ => h1.2.1, fun _ => h1.2.2.1, fun _ => h1.2.2.2.1, fun _ => rfl, fun _ => rfl, fun _ => rfl, fun _ => rfl, fun _ => rfl, fun _ => rfl, fun _ => rfl, fun _ => rfl, fun _ => rfl, fun _ => rfl, fun _ => rfl, fun _ => rfl, fun _ => rfl, fun _ => rfl, fun _ => rfl, fun _ => h1.2.2.2.2, fun _ => rfl, trivial⟩) rfl za (.inr (by simp)) ?_
   refine (h8) ?_
   exact ⟨_, _, _, _, _, 50, rfl, yb 2, yt, yt, (zy ho3_1 (by first | rfl | rw [List.length_append]) (by first | rfl | rw [List.map_append])), rfl⟩
theorem zaR (v : Value) (n : Nat) (xs : List Value) (hv : Shows G 32 v n xs) (h1 : ∀ u ∈ xs, u.oneCell' = true) (hm : n * 32 ≤ 140737488355328) : Fq G [] 15 #[v] (fun u l1 nw => l1 = [] ∧ ∃ v', u = v' ∧ OwnS 30 32 v' n xs nw) := by
 refine QfN Tryz.func15 ?_
 refine (gc)<|(ge) ?_
 refine z3Q hv (Uu 24) rfl rfl rfl fun bq1_1 hbq1_1 => ?_
 refine Qn ?_
 refine zi rfl ?_ ?_
 ·intro hc0
  obtain rfl : n = 0 := hbq1_1 hc0
  obtain rfl : xs = [] := List.length_eq_zero_iff.1 (by have := hv.len; simpa using this)
  refine (gz) ?_
  exact ⟨_, _, _, 99, rfl, yt, (zy (wL _ _) (by simp) (by simp)), rfl⟩
 ·intro hc0
  refine Qk<|(g4) ?_
  refine vG 0 (Uu 24 rfl) (Uz 30 rfl) rfl fun r1 => ?_
  refine (Qm) ?_
  refine yB 0 Y0 hv rfl ze (Uu 24) (Uz 30) (Uy 30) (Ub 30) (by rfl) rfl rfl h1 (by simp only [maxLen]; omega) (by omega) rfl fun v2_2 oz2_2 ho2_2 => ?_
  refine (gt) ?_
  exact ⟨_, _, _, 0, rfl, yt, (zy ho2_2 (by simp) (by simp)), rfl⟩
theorem Yx (v : Value) (n : Nat) (xs : List Value) (hv : Shows G 1 v n xs) (h1 : ∀ u ∈ xs, u.oneCell' = true) (hm : n * 8 ≤ 140737488355328) : Fq G [] 49 #[v] (fun u l1 nw => l1 = [] ∧ ∃ v', u = v' ∧ OwnS 3 1 v' n xs nw) := by
 refine QfN Tryz.func49 ?_
 refine (gc)<|(ge) ?_
 refine z3Q hv (Uu 25) rfl rfl rfl fun bq1_1 hbq1_1 => ?_
 refine Qn ?_
 refine zi rfl ?_ ?_
 ·intro hc0
  obtain rfl : n = 0 := hbq1_1 hc0
  obtain rfl : xs = [] := List.length_eq_zero_iff.1 (by have := hv.len; simpa using this)
  refine (gz) ?_
  exact ⟨_, _, _, 99, rfl, yt, (zy (wL _ _) (by simp) (by simp)), rfl⟩
 ·intro hc0
  refine Qk<|(g4) ?_
  refine vG 0 (Uu 25 rfl) (Uz 3 rfl) rfl fun r1 => ?_
  refine (Qm) ?_
  refine yB 0 Y0 hv rfl ze (Uu 25) (Uz 3) (Uy 3) (Ub 3) (by rfl) rfl rfl h1 (by simp only [maxLen]; omega) (by omega) rfl fun v2_2 oz2_2 ho2_2 => ?_
  refine (gt) ?_
  exact ⟨_, _, _, 0, rfl, yt, (zy ho2_2 (by simp) (by simp)), rfl⟩
theorem z7J (v : Value) (n : Nat) (xs : List Value) (hv : Shows G 1 v n xs) (h1 : ∀ u ∈ xs, u.oneCell' = true) (hm : n * 24 ≤ 140737488355328) : Fq G [] 50 #[v] (fun u l1 nw => l1 = [] ∧ ∃ v', u = v' ∧ OwnS 25 1 v' n xs nw) := by
 refine QfN Tryz.func50 ?_
 refine (gc)<|(ge) ?_
 refine z3Q hv (Uu 27) rfl rfl rfl fun bq1_1 hbq1_1 => ?_
 refine Qn ?_
 refine zi rfl ?_ ?_
 ·intro hc0
  obtain rfl : n = 0 := hbq1_1 hc0
  obtain rfl : xs = [] := List.length_eq_zero_iff.1 (by have := hv.len; simpa using this)
  refine (gz) ?_
  exact ⟨_, _, _, 99, rfl, yt, (zy (wL _ _) (by simp) (by simp)), rfl⟩
 ·intro hc0
  refine Qk<|(g4) ?_
  refine vG 0 (Uu 27 rfl) (Uz 25 rfl) rfl fun r1 => ?_
  refine (Qm) ?_
  refine yB 0 Y0 hv rfl ze (Uu 27) (Uz 25) (Uy 25) (Ub 25) (by rfl) rfl rfl h1 (by simp only [maxLen]; omega) (by omega) rfl fun v2_2 oz2_2 ho2_2 => ?_
  refine (gt) ?_
  exact ⟨_, _, _, 0, rfl, yt, (zy ho2_2 (by simp) (by simp)), rfl⟩
set_option maxRecDepth 20000 in
theorem Yo (b : LN) (l : Bool) (vp v0 v1 vt : Value) (fi : Bool) (tn : Int) (dd : Bool) (y : SY) (r : RS) (ow : NN) (vk : Value) (us : Int) (ps : List (NN)) (qs p0 p1 : List Int) (tvs : List Value) (ts : List (List Int)) (hk : Shows G 32 vk ps.length (psC ps)) (hvp : Shows G 1 vp qs.length (qs.map iv)) (hvt : Shows G 1 vt tvs.length tvs) (hLI : zn G (v0 :: v1 :: tvs) (p0 :: p1 :: ts)) (zk : ps.length * 32 ≤ 140737488355328) (zp : qs.length * 8 ≤ 140737488355328) (zt : tvs.length * 24 ≤ 140737488355328) (zl : ∀ q ∈ p0 :: p1 :: ts, q.length * 8 ≤ 140737488355328) : Fq G [] 27 #[.agg (shC b l vp v0 v1 vt fi tn dd y ow r vk us)] (fun v l1 nw => l1 = [] ∧ z13 b l qs p0 p1 ts ps fi tn dd y ow r us v nw) := by
 have hT := zr (zr hLI)
 have htl : tvs.length = ts.length := hT.1
 have hA0 : Shows G 1 v0 p0.length (p0.map iv) := hLI.2 0 (by simp)
 have hA1 : Shows G 1 v1 p1.length (p1.map iv) := hLI.2 1 (by simp)
 have z0 := zl p0 (by simp)
 have z1 := zl p1 (by simp)
 refine fxD (n := 55) Tryz.func27 rfl rfl (by simp) (wm [.agg (shC b l vp v0 v1 vt fi tn dd y ow r vk us)] 0) (yR _) ?_
 refine (g4)<|(Qh 0) fun r1=>(QH 1) fun r2=>Qn<|Qs<|QR ⟨[], 4, [], none, none⟩<|(Qf 238)<|(QV 21 0) ?_
 refine xg [(0, _), (1, _)] (by repeat (first | exact zu | exact zw _ | apply zm rfl)) ⟨rfl, rfl, trivial⟩ rfl rfl rfl (Un 15) ze ((zaR vk ps.length (psC ps) hk (zfB ps) zk).imp fun u l1 nw ⟨h1, v9, h2, h3⟩ => ⟨h1, h2 ▸ h3.shows⟩) (xj 32 (psC ps) ps.length (xc vI ps)) rfl rfl fun v1_1 nw1_1 hD1_1 => ?_
 simp only [zx]
 revert v1_1
 intro uK sK
 refine (Qf 238) ?_
 refine z2u (i := 0) 21 (Uz 24) rfl rfl (zB sK) rfl rfl (by decide) (.inl rfl) ?_
 refine Qn<|Qs<|QR ⟨[], 4, [], none, none⟩<|(Qf 0)<|(Qf 2)<|(QV 2 0) ?_
 refine xg [(0, _), (1, _)] (by repeat (first | exact zu | exact zw _ | apply zm rfl)) ⟨rfl, rfl, trivial⟩ rfl rfl rfl (Un 49) ze ((Yx vp qs.length (qs.map iv) hvp z15 zp).imp fun u l1 nw ⟨h1, v9, h2, h3⟩ => ⟨h1, h2 ▸ h3.shows⟩) (xj 1 (qs.map iv) qs.length (by simp)) rfl rfl fun v1_2 nw1_2 hD1_2 => ?_
 simp only [zx]
 revert v1_2
 intro uP sP
 refine (Qf 0)<|(Qf 2) ?_
 refine z2u (i := 0) 2 (Uz 25) rfl rfl (zB sP) rfl rfl (by decide) (.inl rfl) ?_
 refine yM (c' := shC b l uP v0 v1 vt fi tn dd y ow r uK us) rfl ?_
 refine Qn<|(gs)<|(Qf 0)<|(Qf 3) ?_
 refine z7W (i := 0) (Uu 26) rfl (Uz 26) rfl rfl (by decide) rfl ⟨[], trivial⟩ ?_
 refine z6 (show _ = Value.agg (zN 2 (fun j => vq v0 v1 j)) from congrArg Value.agg (yy fun j hj => by have h9 : j = 0 ∨ j = 1 := (by omega); rcases h9 with rfl | rfl <;> rfl)) ?_
 refine (Qm)<|Qn<|Qb ?_
 refine z3n [(1, _), (2, _), (19, _)] [(1, _)] (fun kk E m fz => ∃ (a : Nat) (a0 : Value) (a1 : Value), kk = 2 - a ∧ E = [(20, ii a)] ∧ m = [(0, some ⟨r1, shC b l uP a0 a1 vt fi tn dd y ow r uK us, 37⟩)] ∧ (a ≤ 2) ∧ (1 ≤ a → Shows fz 1 a0 p0.length (p0.map iv)) ∧ (2 ≤ a → Shows fz 1 a1 p1.length (p1.map iv)) ∧ (Shows fz 32 uK ps.length (psC ps)) ∧ (Shows fz 1 uP qs.length (qs.map iv))) (k := 2 - 0) (E0 := [(20, ii 0)]) (M0 := [(0, some ⟨r1, shC b l uP v0 v1 vt fi tn dd y ow r uK us, 37⟩)]) (fz := (([] ++ nw1_1) ++ nw1_2)) ⟨0, v0, v1, rfl, rfl, rfl, by omega, (fun h => absurd h (by omega)), (fun h => absurd h (by omega)), (sK.mono (fun x hx => List.mem_append_left _ (List.mem_append_right _ hx))), (sP.mono (fun x hx => List.mem_append_right _ hx))⟩ ⟨rfl, rfl, rfl, rfl, trivial⟩ ⟨rfl, rfl, trivial⟩ (by repeat (first | exact zu | exact zw _ | apply zm rfl)) ?_
 rintro kk E m fz ⟨a, a0, a1, rfl, rfl, rfl, hf0_0, hf0_1, hf0_2, hf0_3, hf0_4⟩
 simp only [zq, zx]
 refine (gq) ?_
 refine (Qcd) (fun hc0=>?_) fun hc0=>?_
 ·have hc0 : a < 2 := by omega
  refine Qk<|Qs<|Qb<|Qs ?_
  rcases (by omega : a = 0 ∨ a = 1) with ha | ha
  ·skip
   refine (je) ?_
   refine z6Q (Uu 26) (Uu 25) rfl (Uz 25) rfl rfl (by omega) rfl ?_
   refine z6 (show vq v0 v1 a = v0 by rw [ha]; rfl) ?_
   refine (g8)<|QR ⟨[], 4, [], none, none⟩<|(gb) ?_
   refine xg [(0, _), (1, _)] (by repeat (first | exact zu | exact zw _ | apply zm rfl)) ⟨rfl, rfl, trivial⟩ rfl rfl rfl (Un 49) ze ((Yx v0 p0.length (p0.map iv) hA0 z15 z0).imp fun u l1 nw ⟨h1, v9, h2, h3⟩ => ⟨h1, h2 ▸ h3.shows⟩) (xj 1 (p0.map iv) p0.length (by simp)) rfl rfl fun v3_3 nw3_3 hD3_3 => ?_
   simp only [zx]
   revert v3_3
   intro uA sA
   refine (Qf 0)<|(Qf 3)<|(QB 3) ?_
   refine z2u (i := 0) 3 (Uz 25) rfl rfl (zB sA) rfl rfl (by decide) (.inl rfl) ?_
   refine yM (c' := shC b l uP uA a1 vt fi tn dd y ow r uK us) rfl ?_
   refine (jc) ?_
   refine VF (E'' := [(20, ii (a + 1))]) (M'' := [(0, some ⟨r1, shC b l uP _ _ vt fi tn dd y ow r uK us, 37⟩)]) (fz' := (fz ++ nw3_3)) ⟨a + 1, _, _, rfl, rfl, rfl, by omega, (fun _ => Shows.mono sA (fun x hx => List.mem_append_right _ hx)), (fun h => absurd h (by omega)), (Shows.mono hf0_3 (fun x hx => List.mem_append_left _ hx)), (Shows.mono hf0_4 (fun x hx => List.mem_append_left _ hx))⟩ ⟨rfl, rfl, rfl, rfl, trivial⟩ ⟨rfl, rfl, trivial⟩ (by repeat (first | exact zu | exact zw _ | apply zm rfl)) (by omega)
  ·skip
   refine (je) ?_
   refine z6Q (Uu 26) (Uu 25) rfl (Uz 25) rfl rfl (by omega) rfl ?_
   refine z6 (show vq v0 v1 a = v1 by rw [ha]; rfl) ?_
   refine (g8)<|QR ⟨[], 4, [], none, none⟩<|(gb) ?_
   refine xg [(0, _), (1, _)] (by repeat (first | exact zu | exact zw _ | apply zm rfl)) ⟨rfl, rfl, trivial⟩ rfl rfl rfl (Un 49) ze ((Yx v1 p1.length (p1.map iv) hA1 z15 z1).imp fun u l1 nw ⟨h1, v9, h2, h3⟩ => ⟨h1, h2 ▸ h3.shows⟩) (xj 1 (p1.map iv) p1.length (by simp)) rfl rfl fun v3_3 nw3_3 hD3_3 => ?_
   simp only [zx]
   revert v3_3
   intro uA sA
   refine (Qf 0)<|(Qf 3)<|(QB 4) ?_
   refine z2u (i := 0) 4 (Uz 25) rfl rfl (zB sA) rfl rfl (by decide) (.inl rfl) ?_
   refine yM (c' := shC b l uP a0 uA vt fi tn dd y ow r uK us) rfl ?_
   refine (jc) ?_
   refine VF (E'' := [(20, ii (a + 1))]) (M'' := [(0, some ⟨r1, shC b l uP _ _ vt fi tn dd y ow r uK us, 37⟩)]) (fz' := (fz ++ nw3_3)) ⟨a + 1, _, _, rfl, rfl, rfl, by omega, (fun _ => Shows.mono (hf0_1 (by omega)) (fun x hx => List.mem_append_left _ hx)), (fun _ => Shows.mono sA (fun x hx => List.mem_append_right _ hx)), (Shows.mono hf0_3 (fun x hx => List.mem_append_left _ hx)), (Shows.mono hf0_4 (fun x hx => List.mem_append_left _ hx))⟩ ⟨rfl, rfl, rfl, rfl, trivial⟩ ⟨rfl, rfl, trivial⟩ (by repeat (first | exact zu | exact zw _ | apply zm rfl)) (by omega)
 ·have hz0 : a = 2 := by omega
  refine Qe<|Qs<|QR ⟨[], 4, [], none, none⟩<|(Qf 0)<|(jd) ?_
  refine zG 2 (fun v => v) rfl rfl (Un 50) ze (z7J vt tvs.length tvs hvt (z03 hT) zt) (by simp only [maxLen]; omega) (by rw [Nat.mul_one]) rfl rfl fun v2_3 oz2_3 ho2_3 => ?_
  refine (Qf 0)<|(Qf 5) ?_
  refine z2u (i := 0) 5 (Uz 27) rfl rfl (zB ho2_3.shows) rfl rfl (by decide) (.inl rfl) ?_
  refine Qn<|(gs)<|(Qf 0)<|(jd)<|(QC ho2_3.shows)<|(Qm)<|Qn<|Qb ?_
  refine z3n [(1, _), (2, _), (19, _), (20, _), (39, _), (40, _)] [(0, _), (1, _)] (fun kk E m fy => ∃ (i : Nat) (xs : List Value) (oz : Option Blk), kk = tvs.length - i ∧ E = [(41, ii i)] ∧ m = [(2, oz)] ∧ (i ≤ tvs.length) ∧ (OwnS 25 1 v2_3 tvs.length xs (Option.toList oz)) ∧ (xs.length = tvs.length) ∧ (∀ j, j < i → Shows fy 1 (xs.getD j undef) (ts.getD j []).length ((ts.getD j []).map iv)) ∧ (∀ j, i ≤ j → xs.getD j undef = tvs.getD j undef) ∧ (∀ x ∈ fz, x ∈ fy)) (k := tvs.length - 0) (E0 := [(41, ii 0)]) (M0 := [(2, oz2_3)]) (fz := fz) ⟨0, tvs, oz2_3, rfl, rfl, rfl, by omega, ho2_3, rfl, (fun j hj => absurd hj (Nat.not_lt_zero j)), (fun _ _ => rfl), (fun _ h => h)⟩ ⟨rfl, rfl, rfl, rfl, rfl, rfl, rfl, trivial⟩ ⟨rfl, rfl, rfl, trivial⟩ (by repeat (first | exact zu | exact zw _ | apply zm rfl)) ?_
  rintro kk E m fy ⟨i, xs, oz, rfl, rfl, rfl, hf1_0, hf1_1, hf1_2, hf1_3, hf1_4, hf1_5⟩
  simp only [zq, zx]
  refine (gq) ?_
  refine (Qcd) (fun hc1=>?_) fun hc1=>?_
  ·have hc1 : i < tvs.length := by omega
   refine (jr) ?_
   refine yf hf1_1.shows (Uu 27) (Uz 25) rfl rfl (by omega) rfl ?_
   refine (QS) ?_
   refine zS hf1_1.shows (zL 2 rfl ⟨[], trivial⟩) (Uu 25) rfl rfl (xz (by omega)) rfl ?_
   refine z6 (hf1_4 i (Nat.le_refl i)) ?_
   refine (g8)<|(Qq ⟨[], 4, [], none, none⟩)<|(Qf 0)<|(jd)<|(gb) ?_
   refine xg [(0, _), (1, _), (2, _)] (by repeat (first | exact zu | exact zw _ | apply zm rfl)) ⟨rfl, rfl, rfl, trivial⟩ rfl rfl rfl (Un 49) ze ((Yx (tvs.getD i undef) (ts.getD i []).length ((ts.getD i []).map iv) (hT.2 i (by omega)) z15 (zl _ (List.mem_cons_of_mem _ (List.mem_cons_of_mem _ (zhJ (by omega)))))).imp fun u l1 nw ⟨h1, v9, h2, h3⟩ => ⟨h1, h2 ▸ h3.shows⟩) (xj 1 ((ts.getD i []).map iv) (ts.getD i []).length (by simp)) rfl rfl fun v3_4 nw3_4 hD3_4 => ?_
   simp only [zx]
   revert v3_4
   intro uN sN
   refine yf hf1_1.shows (Uu 27) (Uz 25) rfl rfl (by omega) rfl ?_
   refine (QS) ?_
   refine Xs (i := 2) hf1_1 (Uz 25) rfl rfl (zB sN) rfl (by omega) rfl fun oz3_5 ho3_5 => ?_
   refine (jc) ?_
   refine VF (E'' := [(41, ii (i + 1))]) (M'' := [(2, _)]) (fz' := (fy ++ nw3_4)) ⟨i + 1, xs.set i uN, _, rfl, rfl, rfl, by omega, ho3_5, (by rw [List.length_set]; exact hf1_2), (fun j hj => by rw [zdn (by omega)]; by_cases e : j = i; (rw [if_pos e, e]; exact Shows.mono sN (fun x hx => List.mem_append_right _ hx)); (rw [if_neg e]; exact Shows.mono (hf1_3 j (by omega)) (fun x hx => List.mem_append_left _ hx))), (fun j hj => by rw [zdn (by omega), if_neg (by omega)]; exact hf1_4 j (by omega)), (fun x hx => List.mem_append_left _ (hf1_5 x hx))⟩ ⟨rfl, rfl, rfl, rfl, rfl, rfl, rfl, trivial⟩ ⟨rfl, rfl, rfl, trivial⟩ (by repeat (first | exact zu | exact zw _ | apply zm rfl)) (by omega)
  ·have hz1 : i = tvs.length := by omega
   refine Qe<|(gd) ?_
   refine z4d 2 [(0, _), (1, _)] rfl rfl (by repeat (first | exact zu | exact zw _ | apply zm rfl)) ⟨rfl, rfl, trivial⟩ rfl rfl ?_
   simp only [zx]
   refine z5 (i := 1) (Uz 37) rfl rfl (z3 _ _) (z7 ⟨fun _ => rfl, fun _ => rfl, fun _ => zB hf0_4, fun _ => zB (hf0_1 (by omega)), fun _ => zB (hf0_2 (by omega)), fun _ => zB hf1_1.shows, fun _ => rfl, fun _ => rfl, fun _ => rfl, fun _ => rfl, fun _ => rfl, fun _ => rfl, fun _ => rfl, fun _ => rfl, fun _ => rfl, fun _ => rfl, fun _ => rfl, fun _ => rfl, fun _ => rfl, fun _ => rfl, fun _ => rfl, fun _ => zB hf0_3, fun _ => rfl, trivial⟩) rfl za (.inl rfl) ?_
   refine Qn<|Qr ?_
   exact ⟨_, _, (fy ++ oz.toList), rfl, yb 1, ⟨uP, a0, a1, _, uK, xs, rfl, hf0_4.mono (fun x hx => List.mem_append_left _ (hf1_5 x hx)), Shows.mono (show Shows oz.toList 1 _ xs.length xs by rw [hf1_2]; exact hf1_1.shows) (fun x hx => List.mem_append_right _ hx), yF (ziO ((hf0_1 (by omega)).mono hf1_5) ((hf0_2 (by omega)).mono hf1_5) (by omega) (fun j hj => hf1_3 j (by omega))) (fun x hx => List.mem_append_left _ hx), hf0_3.mono (fun x hx => List.mem_append_left _ (hf1_5 x hx)), zB hf0_4, zB (hf0_1 (by omega)), zB (hf0_2 (by omega)), zB hf1_1.shows, zB hf0_3⟩, (by repeat (first | exact zu | exact zw _ | apply zm rfl))⟩
theorem Vr (r : Nat) (es : List Ev) (w k : Nat) (hw : w < 2) (hk : k = 1 ∨ k = 2) : Fq G [(⟨r, kst (stE es), 174⟩ : Blk)] 163 #[ptr r, ii w, ii k] (fun v l1 nw => nw = [] ∧ ∃ c', l1 = [⟨r, c', 174⟩] ∧ (v = Value.bool (!(hap es w k)) ∧ ((!(hap es w k)) = true → c' = kst (stE (es ++ [(w, k)]))))) := by
 refine zbS (n := 22) Tryz.func163 rfl rfl (by simp) (wm [ptr r, ii w, ii k] 0) (yR _) ?_
 refine (gc)<|(ge)<|(gb) ?_
 refine yo rfl rfl ?_
 refine (Qf 0)<|(QB (3 * w))<|(QB (3 * w + k)) ?_
 refine y7 (i := 0) (Uu 4) rfl rfl rfl (yE (by omega)) rfl ⟨[], trivial⟩ ?_
 refine z6 (show _ = Value.bool (hap es w k) from congrArg Value.bool (Wc hk hw)) ?_
 refine Qn ?_
 refine zi rfl ?_ ?_
 ·intro hc0
  refine (gz) ?_
  exact ⟨_, _, _, rfl, yt, (by first | exact ⟨by rw [hc0]; rfl, fun _ => z94 hk hw⟩ | exact ⟨by rw [hc0]; rfl, fun h => by rw [hc0] at h; cases h⟩), 0, rfl⟩
 ·intro hc0
  refine Qk<|(g6)<|(gb) ?_
  refine yo rfl rfl ?_
  refine (Qf 0)<|(QB (3 * w))<|(QB (3 * w + k)) ?_
  refine z4W (i := 0) (Uz 4) rfl rfl rfl rfl (by omega) (.inl rfl) ?_
  refine Qn<|(gz) ?_
  exact ⟨_, _, _, rfl, yt, (by first | exact ⟨by rw [hc0]; rfl, fun _ => z94 hk hw⟩ | exact ⟨by rw [hc0]; rfl, fun h => by rw [hc0] at h; cases h⟩), 0, rfl⟩
theorem z7l (t : Nat) : Fp G 220 #[ii t] (.agg (arr .i64 2 (ltr t))) := by
 refine Qf1 Tryz.func220 ?_
 refine (g4)<|(QH 0) fun r1=>Qn<|(ji)<|(g4)<|(Qc)<|(g3) ?_
 refine zi rfl ?_ ?_
 ·intro hc0
  obtain rfl : t = 3 := by have := of_decide_eq_true hc0; omega
  refine (g4) ?_
  refine zV (arr .i64 2 (ltr 3)) (Ub 272 rfl) (Uu 272 rfl) (Uz 3 rfl) rfl (by kernel_rfl) rfl ?_
  refine (Qt 0)<|Qn<|Qr ?_
  first | (rw [show ltr t = ltr 6 by funext j; unfold ltr; rw [if_neg hn0, if_neg hn1, if_neg hn2]; rfl]) | skip
  exact ⟨_, rfl, ya 0⟩
 ·intro hc0
  have hn0 : ¬ t = 3 := by have := of_decide_eq_false hc0; omega
  refine (g4)<|(Qc)<|(g3) ?_
  refine zi rfl ?_ ?_
  ·intro hc1
   obtain rfl : t = 4 := by have := of_decide_eq_true hc1; omega
   refine (g4) ?_
   refine zV (arr .i64 2 (ltr 4)) (Ub 272 rfl) (Uu 272 rfl) (Uz 3 rfl) rfl (by kernel_rfl) rfl ?_
   refine (Qt 0)<|Qn<|Qr ?_
   first | (rw [show ltr t = ltr 6 by funext j; unfold ltr; rw [if_neg hn0, if_neg hn1, if_neg hn2]; rfl]) | skip
   exact ⟨_, rfl, ya 0⟩
  ·intro hc1
   have hn1 : ¬ t = 4 := by have := of_decide_eq_false hc1; omega
   refine (g4)<|(Qc)<|(g3) ?_
   refine zi rfl ?_ ?_
   ·intro hc2
    obtain rfl : t = 5 := by have := of_decide_eq_true hc2; omega
    refine (g4) ?_
    refine zV (arr .i64 2 (ltr 5)) (Ub 272 rfl) (Uu 272 rfl) (Uz 3 rfl) rfl (by kernel_rfl) rfl ?_
    refine (Qt 0)<|Qn<|Qr ?_
    first | (rw [show ltr t = ltr 6 by funext j; unfold ltr; rw [if_neg hn0, if_neg hn1, if_neg hn2]; rfl]) | skip
    exact ⟨_, rfl, ya 0⟩
   ·intro hc2
    have hn2 : ¬ t = 5 := by have := of_decide_eq_false hc2; omega
    refine Qk<|(g4) ?_
    refine zV (arr .i64 2 (ltr 6)) (Ub 272 rfl) (Uu 272 rfl) (Uz 3 rfl) rfl (by kernel_rfl) rfl ?_
    refine (Qt 0)<|Qn<|Qr ?_
    first | (rw [show ltr t = ltr 6 by funext j; unfold ltr; rw [if_neg hn0, if_neg hn1, if_neg hn2]; rfl]) | skip
    exact ⟨_, rfl, ya 0⟩
theorem VV (r : Nat) (s : Nat → Bool) (w : Nat) (hw : w < 2) : Fp ((⟨r, kst s, 174⟩ : Blk) :: G) 165 #[ptr r, ii w] (.bool (mlS s w)) := by
 have hmo : 4 ≤ vr (w : Int) ∧ vr (w : Int) ≤ 5 := by unfold vr; split <;> omega
 have hmf : 4 ≤ v4 (w : Int) ∧ v4 (w : Int) ≤ 5 := by unfold v4; split <;> omega
 refine Qf1 Tryz.func165 ?_
 refine (gc)<|(g4)<|(ja)<|(Qc)<|Qn ?_
 refine z0i [(0, _), (1, _), (4, _), (7, _), (8, _)] [(5, ii (vr w)), (6, ii (v4 w))] [] ⟨rfl, rfl, rfl, rfl, rfl, trivial⟩ trivial ?_ ?_
 ·skip
  refine (Qcd) (fun hc0=>?_) fun hc0=>?_
  ·refine Qp<|(Qm)<|(Qm)<|(Qa)<|(Qa)<|Qn ?_
   exact ⟨⟨rfl, rfl, rfl, rfl, rfl, trivial⟩, ⟨(by first | rw [vr, if_pos (by assumption)]; rfl | rw [vr, if_neg (by assumption)]; rfl), (by first | rw [v4, if_pos (by assumption)]; rfl | rw [v4, if_neg (by assumption)]; rfl), trivial⟩, trivial⟩
  ·refine Qk ?_
   exact ⟨⟨rfl, rfl, rfl, rfl, rfl, trivial⟩, ⟨(by first | rw [vr, if_pos (by assumption)]; rfl | rw [vr, if_neg (by assumption)]; rfl), (by first | rw [v4, if_pos (by assumption)]; rfl | rw [v4, if_neg (by assumption)]; rfl), trivial⟩, trivial⟩
 ·simp only [zq]
  refine (gs) ?_
  refine yd [(0, _), (1, _), (4, _), (5, _), (6, _), (7, _), (8, _)] [(25, .bool (s 13 && !(s (3 * w + 1))))] [] ⟨rfl, rfl, rfl, rfl, rfl, rfl, rfl, trivial⟩ trivial ?_ ?_
  ·skip
   refine (Qm) ?_
   refine yo rfl rfl ?_
   refine (Qf 6)<|(QA 13 7) ?_
   refine yl (i := 0) (Uu 4) rfl rfl rfl (yE (by decide)) rfl ?_
   refine (Av (Value.bool (s 13)))<|(Qm) ?_
   refine zo (fun hb0 => ?_) (fun hb0 => ?_)
   ·skip
    refine (Qy)<|(gn) ?_
    refine yo rfl rfl ?_
    refine (Qy)<|(Qf 0)<|(Qy)<|(QB (3 * w))<|(Qy)<|(QA (3 * w + 1) 1)<|(Qy) ?_
    refine yl (i := 0) (Uu 4) rfl rfl rfl (yE (by omega)) rfl ?_
    refine (Av (Value.bool (s (3 * w + 1))))<|(Qy)<|(Q0)<|(QT)<|Qn ?_
    exact ⟨⟨rfl, rfl, rfl, rfl, rfl, rfl, rfl, trivial⟩, ⟨z4 (by rw [hb0] <;> rfl), trivial⟩, trivial⟩
   ·skip
    refine (gg)<|(gg)<|(QF)<|Qn ?_
    exact ⟨⟨rfl, rfl, rfl, rfl, rfl, rfl, rfl, trivial⟩, ⟨z4 (by rw [hb0] <;> rfl), trivial⟩, trivial⟩
  ·simp only [zq]
   refine zi rfl ?_ ?_
   ·intro hc1
    rw [show mlS s w = false by rw [mlS, hc1]; rfl]
    refine (gz) ?_
    exact ⟨_, rfl, yt⟩
   ·intro hc1
    have hz1 := hc1
    refine Qk<|(gs) ?_
    refine yd [(0, _), (1, _), (4, _), (5, _), (6, _), (7, _), (8, _), (25, _)] [(39, .bool (s (6 + vr w) && !(s 9)))] [] ⟨rfl, rfl, rfl, rfl, rfl, rfl, rfl, rfl, trivial⟩ trivial ?_ ?_
    ·skip
     refine (gb) ?_
     refine yo rfl rfl ?_
     refine (Qf 6)<|(QB (6 + vr w)) ?_
     refine yl (i := 0) (Uu 4) rfl rfl rfl (yE (by omega)) rfl ?_
     refine (Av (Value.bool (s (6 + vr w))))<|(Qm) ?_
     refine zo (fun hb1 => ?_) (fun hb1 => ?_)
     ·skip
      refine (Qy)<|(g7) ?_
      refine yo rfl rfl ?_
      refine (Qy)<|(Qf 6)<|(Qy)<|(QA 9 3)<|(Qy) ?_
      refine yl (i := 0) (Uu 4) rfl rfl rfl (yE (by decide)) rfl ?_
      refine (Av (Value.bool (s 9)))<|(Qy)<|(Q0)<|(QT)<|Qn ?_
      exact ⟨⟨rfl, rfl, rfl, rfl, rfl, rfl, rfl, rfl, trivial⟩, ⟨z4 (by rw [hb1] <;> rfl), trivial⟩, trivial⟩
     ·skip
      refine (gg)<|(g5)<|(QF)<|Qn ?_
      exact ⟨⟨rfl, rfl, rfl, rfl, rfl, rfl, rfl, rfl, trivial⟩, ⟨z4 (by rw [hb1] <;> rfl), trivial⟩, trivial⟩
    ·simp only [zq]
     refine zi rfl ?_ ?_
     ·intro hc2
      rw [show mlS s w = false by rw [mlS, hz1, hc2]; rfl]
      refine (gz) ?_
      exact ⟨_, rfl, yt⟩
     ·intro hc2
      rw [show mlS s w = (!(s 12) || s (6 + v4 w)) by rw [mlS, hz1, hc2]; rfl]
      refine Qk<|(g4) ?_
      refine yd [(0, _), (1, _), (5, _), (6, _), (7, _), (8, _), (25, _), (39, _)] [(4, .bool (!(s 12) || s (6 + v4 w)))] [] ⟨rfl, rfl, rfl, rfl, rfl, rfl, rfl, rfl, trivial⟩ trivial ?_ ?_
      ·skip
       refine (Qm) ?_
       refine yo rfl rfl ?_
       refine (Qf 6)<|(QA 12 6) ?_
       refine yl (i := 0) (Uu 4) rfl rfl rfl (yE (by decide)) rfl ?_
       refine (Av (Value.bool (s 12)))<|(Q0)<|(Qm) ?_
       refine zo (fun hb2 => ?_) (fun hb2 => ?_)
       ·skip
        refine (gg)<|(g5)<|(QT)<|(g3) ?_
        exact ⟨⟨rfl, rfl, rfl, rfl, rfl, rfl, rfl, rfl, trivial⟩, ⟨z4 (by rw [hb2] <;> rfl), trivial⟩, trivial⟩
       ·skip
        refine (Qy)<|(gn) ?_
        refine yo rfl rfl ?_
        refine (Qy)<|(Qf 6)<|(Qy)<|(QB (6 + v4 w))<|(Qy) ?_
        refine yl (i := 0) (Uu 4) rfl rfl rfl (yE (by omega)) rfl ?_
        refine (Av (Value.bool (s (6 + v4 w))))<|(QF)<|(g3) ?_
        exact ⟨⟨rfl, rfl, rfl, rfl, rfl, rfl, rfl, rfl, trivial⟩, ⟨z4 (by rw [hb2] <;> rfl), trivial⟩, trivial⟩
      ·simp only [zq]
       refine Qr ?_
       exact ⟨_, rfl, yt⟩
theorem XF (v : Value) (vs : List Value) (ls : List (List Int)) (hv : Shows G 1 v vs.length vs) (hL : zn G vs ls) (hn : vs.length ≤ 1000000) : Fp G 89 #[v] (ii (y4 ls)) := by
 have hvl := hL.1
 refine Qf1 Tryz.func89 ?_
 refine (gc)<|(ge)<|(QC hv)<|(Qm)<|Qn<|Qb ?_
 refine QzK [(7, _), (8, _)] [] (fun kk E m => ∃ (i : Nat), kk = vs.length - i ∧ E = [(9, ii i)] ∧ m = [] ∧ (i ≤ vs.length) ∧ (∀ q, q < i → (ls.getD q []).length ≤ 6 ∧ (ls.getD q []).any xp = false)) ⟨0, rfl, rfl, rfl, by omega, fun _ h => absurd h (Nat.not_lt_zero _)⟩ ⟨rfl, rfl, rfl, trivial⟩ trivial ?_
 rintro kk E m ⟨i, rfl, rfl, rfl, hf0_0, hf0_1⟩
 simp only [zq, zx]
 refine (gq) ?_
 refine (Qcd) (fun hc0=>?_) fun hc0=>?_
 ·have hc0 : i < vs.length := by omega
  refine Qk<|Qs<|Qb<|(g4) ?_
  refine yf hv (Uu 27) (Uz 25) rfl rfl (by omega) rfl ?_
  refine (QS) ?_
  refine zS hv ze (Uu 25) rfl rfl (xz (by omega)) rfl ?_
  refine (g3)<|(ge)<|(QC (hL.2 i (by omega)))<|(QG)<|Qn ?_
  refine (Qcd) (fun hc1=>?_) fun hc1=>?_
  ·rw [Zq (by omega) hf0_1, y4, if_pos (by omega)]
   refine (gz) ?_
   first | rw [we (fun q hq => hf0_1 q (by omega))] | skip
   exact ⟨_, rfl, yt⟩
  ·refine Qk<|Qs<|Qp<|(Qm)<|(QC (hL.2 i (by omega)))<|(Qm)<|Qn<|Qb ?_
   refine QzK [(7, _), (8, _), (9, _), (16, _), (17, _)] [] (fun kk E m => ∃ (j : Nat), kk = (ls.getD i []).length - j ∧ E = [(18, ii j)] ∧ m = [] ∧ (j ≤ (ls.getD i []).length) ∧ (∀ p, p < j → xp ((ls.getD i []).getD p 0) = false)) ⟨0, rfl, rfl, rfl, by omega, fun _ h => absurd h (Nat.not_lt_zero _)⟩ ⟨rfl, rfl, rfl, rfl, rfl, rfl, trivial⟩ trivial ?_
   rintro kk E m ⟨j, rfl, rfl, rfl, hf1_0, hf1_1⟩
   simp only [zq, zx]
   refine (gq) ?_
   refine (Qcd) (fun hc2=>?_) fun hc2=>?_
   ·have hc2 : j < (ls.getD i []).length := by omega
    refine Qk<|Qs<|Qb<|(g4) ?_
    refine yf (hL.2 i (by omega)) (Uu 25) (Uz 3) rfl rfl (by omega) rfl ?_
    refine (QS) ?_
    refine zS (hL.2 i (by omega)) ze (Uu 3) rfl rfl (z7Q (by omega)) rfl ?_
    refine (j3) ?_
    refine yd [(6, _), (7, _), (8, _), (9, _), (16, _), (17, _), (18, _), (19, _), (20, _), (21, _)] [(27, .bool (xp ((ls.getD i []).getD j 0)))] [] ⟨rfl, rfl, rfl, rfl, rfl, rfl, rfl, rfl, rfl, rfl, trivial⟩ trivial ?_ ?_
    ·skip
     refine (Qm)<|(Ql)<|(Qm) ?_
     refine zo (b := decide ((ls.getD i []).getD j 0 < 1)) (fun hb0 => ?_) (fun hb0 => ?_)
     ·skip
      refine (g5)<|(QT)<|Qn ?_
      exact ⟨⟨rfl, rfl, rfl, rfl, rfl, rfl, rfl, rfl, rfl, rfl, trivial⟩, ⟨z4 (by rw [xp, hb0] <;> rfl), trivial⟩, trivial⟩
     ·skip
      refine (Qy)<|(g7)<|(QG)<|(QF)<|Qn ?_
      exact ⟨⟨rfl, rfl, rfl, rfl, rfl, rfl, rfl, rfl, rfl, rfl, trivial⟩, ⟨z4 (by rw [xp, hb0] <;> rfl), trivial⟩, trivial⟩
    ·simp only [zq]
     refine zi rfl ?_ ?_
     ·intro hc3
      rw [Zq (by omega) hf0_1, y4, if_neg (by omega), zez (by omega) hc3, if_pos rfl]
      refine (gz) ?_
      first | rw [we (fun q hq => hf0_1 q (by omega))] | skip
      exact ⟨_, rfl, yt⟩
     ·intro hc3
      have hcf := hc3
      refine Qk<|(gl) ?_
      refine QzL ⟨j + 1, rfl, rfl, rfl, by omega, fun p h => by by_cases e : p = j; (subst e; exact hcf); exact hf1_1 p (by omega)⟩ ⟨rfl, rfl, rfl, rfl, rfl, rfl, trivial⟩ trivial ?_
      omega
   ·have hz1 : j = (ls.getD i []).length := by omega
    refine Qe<|(gl) ?_
    refine QzL ⟨i + 1, rfl, rfl, rfl, by omega, fun q h => by by_cases e : q = i; (subst e; exact ⟨by omega, z4p (fun p hp => hf1_1 p (by omega))⟩); exact hf0_1 q (by omega)⟩ ⟨rfl, rfl, rfl, trivial⟩ trivial ?_
    omega
 ·have hz0 : i = vs.length := by omega
  refine Qe<|(gz) ?_
  first | rw [we (fun q hq => hf0_1 q (by omega))] | skip
  exact ⟨_, rfl, yt⟩
theorem zfp (r : Nat) (es : List Ev) (w : Nat) (hw : w < 2) (v : Value) (l : LN) (hv : Shows G 1 v l.length ((ci l).map iv)) (ht : ∀ x ∈ l, 1 ≤ x ∧ x ≤ 7) (hz : l.length ≤ 1000) : Fq G [(⟨r, kst (stE es), 174⟩ : Blk)] 128 #[ptr r, ii w, v] (fun u l1 nw => nw = [] ∧ ∃ c', l1 = [⟨r, c', 174⟩] ∧ (u = Value.bool (z48 es w l) ∧ ((z48 es w l) = true → c' = kst (stE (es ++ ym w l))))) := by
 refine zbS (n := 29) Tryz.func128 rfl rfl (by simp) (wm [ptr r, ii w, v] 0) (yR _) ?_
 refine (gc)<|(ge)<|(QC hv)<|(Qm)<|Qn<|Qb ?_
 refine QzK [(0, _), (1, _), (9, _), (10, _)] [] (fun kk E m => ∃ (j : Nat), kk = l.length - j ∧ E = [(11, ii j)] ∧ m = [(0, some ⟨r, kst (stE (es ++ (ym w l).take j)), 174⟩)] ∧ (j ≤ l.length) ∧ (∀ t, t < j → Zn (es ++ (ym w l).take t) (w, l.getD t 0) = true)) ⟨0, rfl, rfl, rfl, by omega, fun t ht => absurd ht (Nat.not_lt_zero t)⟩ ⟨rfl, rfl, rfl, rfl, rfl, trivial⟩ ⟨(by rw [z2g] <;> rfl), trivial⟩ ?_
 rintro kk E m ⟨j, rfl, rfl, rfl, hf0_0, hf0_1⟩
 simp only [zq, zx]
 refine (gq) ?_
 refine (Qcd) (fun hc0=>?_) fun hc0=>?_
 ·have hc0 : j < l.length := by omega
  refine Qk<|Qs<|Qb<|(g4) ?_
  refine yf hv (Uu 25) (Uz 3) rfl rfl (by omega) rfl ?_
  refine (QS) ?_
  refine zS hv ze (Uu 3) rfl rfl (VY (by omega)) rfl ?_
  refine Vt fun x hx => ?_
  refine (g3) ?_
  have hx9 := ht (l.getD j 0) (by rw [List.getD_eq_getElem?_getD, List.getElem?_eq_getElem (by omega)]; exact List.getElem_mem _)
  rw [← hx] at hx9
  refine Qs ?_
  rcases (by omega : x = 1 ∨ x = 2 ∨ 2 < x) with e1 | e2 | e3
  ·skip
   refine QR ⟨[], 5, [], none, none⟩<|(Qm)<|(QN)<|(Qaf)<|(Qm)<|(g5)<|(QF)<|(gn)<|(gn) ?_
   refine wV 0 rfl rfl (Un 163) rfl (fun _ h => by cases h) (Vr (G := []) r (es ++ (ym w l).take j) w x hw (.inl e1)) ⟨_, _, rfl, fun _ => rfl⟩ rfl rfl fun v3_1 c3_1 hS3_1 => ?_
   obtain ⟨rfl, hq1⟩ := hS3_1
   refine (Qy)<|(Q0)<|(QF)<|Qn ?_
   refine zi rfl ?_ ?_
   ·intro hc1
    have hap1 : hap (es ++ (ym w l).take j) w x = true := by simpa using hc1
    have hbad : Zn (es ++ (ym w l).take j) (w, l.getD j 0) = false := by rw [Zs, ← hx, hap1]; simp
    have hrow := z0S (show j < l.length by omega) hbad
    refine (gz) ?_
    exact ⟨_, _, _, rfl, yt, (by first | exact ⟨by rw [hrow], fun h => by rw [hrow] at h; cases h⟩ | (rw [hz0, vK]; exact ⟨by rw [Vz (fun t h => hf0_1 t (by omega))], fun _ => rfl⟩)), 0, rfl⟩
   ·intro hc1
    have hap0 : hap (es ++ (ym w l).take j) w x = false := by simpa using hc1
    have hok : Zn (es ++ (ym w l).take j) (w, l.getD j 0) = true := by rw [Zs, ← hx, hap0, decide_eq_true (by omega)]; rfl
    obtain rfl := hq1 (by rw [hap0]; rfl)
    refine Qk<|(gl) ?_
    refine QzL ⟨j + 1, rfl, rfl, rfl, by omega, fun t ht => by rcases (by omega : t < j ∨ t = j) with h | rfl; exact hf0_1 t h; exact hok⟩ ⟨rfl, rfl, rfl, rfl, rfl, trivial⟩ ⟨(by rw [WM (by omega), ← hx] <;> rfl), trivial⟩ ?_
    omega
  ·skip
   refine QR ⟨[], 5, [], none, none⟩<|(Qm)<|(QN)<|(Qat)<|(gn)<|(QN)<|(Qaf)<|(QT)<|(gn)<|(gn) ?_
   refine wV 0 rfl rfl (Un 163) rfl (fun _ h => by cases h) (Vr (G := []) r (es ++ (ym w l).take j) w x hw (.inr e2)) ⟨_, _, rfl, fun _ => rfl⟩ rfl rfl fun v3_1 c3_1 hS3_1 => ?_
   obtain ⟨rfl, hq1⟩ := hS3_1
   refine (Qy)<|(Q0)<|(QF)<|Qn ?_
   refine zi rfl ?_ ?_
   ·intro hc1
    have hap1 : hap (es ++ (ym w l).take j) w x = true := by simpa using hc1
    have hbad : Zn (es ++ (ym w l).take j) (w, l.getD j 0) = false := by rw [Zs, ← hx, hap1]; simp
    have hrow := z0S (show j < l.length by omega) hbad
    refine (gz) ?_
    exact ⟨_, _, _, rfl, yt, (by first | exact ⟨by rw [hrow], fun h => by rw [hrow] at h; cases h⟩ | (rw [hz0, vK]; exact ⟨by rw [Vz (fun t h => hf0_1 t (by omega))], fun _ => rfl⟩)), 0, rfl⟩
   ·intro hc1
    have hap0 : hap (es ++ (ym w l).take j) w x = false := by simpa using hc1
    have hok : Zn (es ++ (ym w l).take j) (w, l.getD j 0) = true := by rw [Zs, ← hx, hap0, decide_eq_true (by omega)]; rfl
    obtain rfl := hq1 (by rw [hap0]; rfl)
    refine Qk<|(gl) ?_
    refine QzL ⟨j + 1, rfl, rfl, rfl, by omega, fun t ht => by rcases (by omega : t < j ∨ t = j) with h | rfl; exact hf0_1 t h; exact hok⟩ ⟨rfl, rfl, rfl, rfl, rfl, trivial⟩ ⟨(by rw [WM (by omega), ← hx] <;> rfl), trivial⟩ ?_
    omega
  ·skip
   refine (je)<|(QN)<|(Qat)<|(gn)<|(QN)<|(Qat)<|(QT)<|(j5)<|(Qo)<|(QT)<|(gv) ?_
   have hbad : Zn (es ++ (ym w l).take j) (w, l.getD j 0) = false := by rw [Zs, ← hx, decide_eq_false (by omega)]; rfl
   have hrow := z0S (show j < l.length by omega) hbad
   refine (gz) ?_
   exact ⟨_, _, _, rfl, yt, (by first | exact ⟨by rw [hrow], fun h => by rw [hrow] at h; cases h⟩ | (rw [hz0, vK]; exact ⟨by rw [Vz (fun t h => hf0_1 t (by omega))], fun _ => rfl⟩)), 0, rfl⟩
 ·have hz0 : j = l.length := by omega
  refine Qe<|(gz) ?_
  exact ⟨_, _, _, rfl, yt, (by first | exact ⟨by rw [hrow], fun h => by rw [hrow] at h; cases h⟩ | (rw [hz0, vK]; exact ⟨by rw [Vz (fun t h => hf0_1 t (by omega))], fun _ => rfl⟩)), 0, rfl⟩
theorem zhB (r : Nat) (es : List Ev) (w t : Nat) (h3 : 3 ≤ t) (h6 : t ≤ 6) : Fq G [(⟨r, kst (stE es), 174⟩ : Blk)] 193 #[ptr r, ii t] (fun v l1 nw => nw = [] ∧ ∃ c', l1 = [⟨r, c', 174⟩] ∧ (v = Value.bool (okT es w t) ∧ ((okT es w t) = true → c' = kst (stE (es ++ [(w, t)]))))) := by
 have hl0 := z3K t 0
 have hl1 := z3K t 1
 have hmb := zch (es := es) (w := w) h3 h6
 refine zbS (n := 41) Tryz.func193 rfl rfl (by simp) (wm [ptr r, ii t] 0) (yR _) ?_
 refine (gc)<|(g6) ?_
 refine (Ca (z7l t))<|(QH 1) fun r2=>(j4)<|Qs<|(gr) ?_
 refine yd [(0, _), (1, _), (4, _), (5, _), (6, _), (7, _)] [(35, .bool (zan (stE es) t))] [(0, some _), (1, some _)] ⟨rfl, rfl, rfl, rfl, rfl, rfl, trivial⟩ ⟨rfl, rfl, trivial⟩ ?_ ?_
 ·skip
  refine (gb) ?_
  refine yo rfl rfl ?_
  refine (Qf 6)<|(QB (6 + t)) ?_
  refine y7 (i := 0) (Uu 4) rfl rfl rfl (yE (by omega)) rfl ⟨[], trivial⟩ ?_
  refine (Av (Value.bool (stE es (6 + t))))<|(Qm) ?_
  refine zo (fun hb0 => ?_) (fun hb0 => ?_)
  ·skip
   refine (gg)<|(gg)<|(Qo)<|(QT)<|(j5)<|(gg)<|(Qo)<|(QT)<|Qn ?_
   exact ⟨⟨rfl, rfl, rfl, rfl, rfl, rfl, trivial⟩, ⟨z4 (by rw [zan, hb0] <;> rfl), trivial⟩, ⟨rfl, rfl, trivial⟩⟩
  ·skip
   refine (Qy)<|(g7)<|(Qj 0)<|(Qy)<|(Q1 1)<|(Qy) ?_
   refine yo rfl rfl ?_
   refine (Qy)<|(Qf 0)<|(Qy)<|(QA 0 0)<|(Qy)<|(Qi)<|(Qy) ?_
   refine y7 (i := 0) (Uu 4) rfl rfl rfl (yE (by omega)) rfl ⟨[], trivial⟩ ?_
   refine z6 (show _ = Value.bool (stE es (ltr t 0)) by first | rfl | (rw [Nat.zero_add])) ?_
   refine (Qy)<|(Q0)<|(QF)<|(Qm) ?_
   refine zo (fun hb1 => ?_) (fun hb1 => ?_)
   ·skip
    refine (gg)<|(gg)<|(Qo)<|(QT)<|Qn ?_
    exact ⟨⟨rfl, rfl, rfl, rfl, rfl, rfl, trivial⟩, ⟨z4 (by rw [zan, hb0, hb1] <;> rfl), trivial⟩, ⟨rfl, rfl, trivial⟩⟩
   ·skip
    refine (Qy)<|(g7)<|(Qj 1)<|(Qy)<|(Q1 1)<|(Qy) ?_
    refine yo rfl rfl ?_
    refine (Qy)<|(Qf 0)<|(Qy)<|(QA 3 1)<|(Qy)<|(QB (3 + ltr t 1))<|(Qy) ?_
    refine y7 (i := 0) (Uu 4) rfl rfl rfl (yE (by omega)) rfl ⟨[], trivial⟩ ?_
    refine (Av (Value.bool (stE es (3 + ltr t 1))))<|(Qy)<|(Q0)<|(QF)<|Qn ?_
    exact ⟨⟨rfl, rfl, rfl, rfl, rfl, rfl, trivial⟩, ⟨z4 (by rw [zan, hb0, hb1] <;> rfl), trivial⟩, ⟨rfl, rfl, trivial⟩⟩
 ·simp only [zq]
  refine zi rfl ?_ ?_
  ·intro hc0
   have hno : okT es w t = false := by rw [hc0] at hmb; simpa using hmb
   refine (gz) ?_
   exact ⟨_, _, _, rfl, yt, (by first | exact ⟨by rw [hno], fun _ => Zy h3 (by omega)⟩ | exact ⟨by rw [hno], fun h => by rw [hno] at h; cases h⟩), 0, rfl⟩
  ·intro hc0
   have hno : okT es w t = true := by rw [hc0] at hmb; simpa using hmb
   refine Qk<|(g6)<|(Qm) ?_
   refine yo rfl rfl ?_
   refine (Qf 6)<|(QB (6 + t)) ?_
   refine z4W (i := 0) (Uz 4) rfl rfl rfl rfl (by omega) (.inl rfl) ?_
   refine Qn<|(gz) ?_
   exact ⟨_, _, _, rfl, yt, (by first | exact ⟨by rw [hno], fun _ => Zy h3 (by omega)⟩ | exact ⟨by rw [hno], fun h => by rw [hno] at h; cases h⟩), 0, rfl⟩
theorem ziJ (r : Nat) (es : List Ev) (w x : Nat) (hw : w < 2) (h1 : 1 ≤ x) (h7 : x ≤ 7) : Fq G [(⟨r, kst (stE es), 174⟩ : Blk)] 164 #[ptr r, ii w, ii x] (fun v l1 nw => nw = [] ∧ ∃ c', l1 = [⟨r, c', 174⟩] ∧ (v = Value.bool (okT es w x) ∧ ((okT es w x) = true → c' = kst (stE (es ++ [(w, x)]))))) := by
 refine zbS (n := 35) Tryz.func164 rfl rfl (by simp) (wm [ptr r, ii w, ii x] 0) (yR _) ?_
 refine (gc)<|(ji)<|(g4)<|(Qc)<|(g3) ?_
 refine zi rfl ?_ ?_
 ·intro hc0
  obtain rfl : x = 1 := by have := of_decide_eq_true hc0; omega
  refine Qs<|QR ⟨[], 5, [], none, none⟩<|(gb)<|(Qm) ?_
  refine wV 0 rfl rfl (Un 163) rfl (fun _ h => by cases h) (Vr (G := []) r es w 1 hw (.inl rfl)) ⟨_, _, rfl, fun _ => rfl⟩ rfl rfl fun v2_1 c2_1 hS2_1 => ?_
  obtain ⟨rfl, hq1⟩ := hS2_1
  refine (gt) ?_
  exact ⟨_, _, _, rfl, yt, (by first | exact ⟨by rw [wN]; rfl, fun h => hq1 (by rw [wN] at h; exact h)⟩ | exact ⟨by rw [yx hw, hml]; rfl, fun h => hq2 (by rw [yx hw, hml] at h; exact h)⟩ | exact ⟨by rw [yx hw, hml]; rfl, fun h => by rw [yx hw, hml] at h; cases h⟩ | exact ⟨rfl, fun _ => Zy (by decide) (by decide)⟩ | exact ⟨rfl, hq4⟩), 0, rfl⟩
 ·intro hc0
  have hx1 : ¬ x = 1 := by have := of_decide_eq_false hc0; omega
  refine (g4)<|(Qc)<|(g3) ?_
  refine zi rfl ?_ ?_
  ·intro hc1
   obtain rfl : x = 2 := by have := of_decide_eq_true hc1; omega
   refine Qs ?_
   cases hml : mlS (stE es) w
   ·skip
    refine Qp<|(gb) ?_
    refine vj [_] rfl rfl (Un 165) ⟨⟨0, rfl⟩, trivial⟩ (VV (G := []) r (stE es) w hw) rfl rfl rfl ?_
    refine (Ab hml)<|(j5)<|(QF)<|(gt) ?_
    exact ⟨_, _, _, rfl, yt, (by first | exact ⟨by rw [wN]; rfl, fun h => hq1 (by rw [wN] at h; exact h)⟩ | exact ⟨by rw [yx hw, hml]; rfl, fun h => hq2 (by rw [yx hw, hml] at h; exact h)⟩ | exact ⟨by rw [yx hw, hml]; rfl, fun h => by rw [yx hw, hml] at h; cases h⟩ | exact ⟨rfl, fun _ => Zy (by decide) (by decide)⟩ | exact ⟨rfl, hq4⟩), 0, rfl⟩
   ·skip
    refine QR ⟨[], 5, [], none, none⟩<|(gb) ?_
    refine vj [_] rfl rfl (Un 165) ⟨⟨0, rfl⟩, trivial⟩ (VV (G := []) r (stE es) w hw) rfl rfl rfl ?_
    refine (Ab hml)<|(gn)<|(gn) ?_
    refine wV 0 rfl rfl (Un 163) rfl (fun _ h => by cases h) (Vr (G := []) r es w 2 hw (.inr rfl)) ⟨_, _, rfl, fun _ => rfl⟩ rfl rfl fun v4_1 c4_1 hS4_1 => ?_
    obtain ⟨rfl, hq2⟩ := hS4_1
    refine (QT)<|(gt) ?_
    exact ⟨_, _, _, rfl, yt, (by first | exact ⟨by rw [wN]; rfl, fun h => hq1 (by rw [wN] at h; exact h)⟩ | exact ⟨by rw [yx hw, hml]; rfl, fun h => hq2 (by rw [yx hw, hml] at h; exact h)⟩ | exact ⟨by rw [yx hw, hml]; rfl, fun h => by rw [yx hw, hml] at h; cases h⟩ | exact ⟨rfl, fun _ => Zy (by decide) (by decide)⟩ | exact ⟨rfl, hq4⟩), 0, rfl⟩
  ·intro hc1
   have hx2 : ¬ x = 2 := by have := of_decide_eq_false hc1; omega
   refine (g4)<|(Qc)<|(g3) ?_
   refine zi rfl ?_ ?_
   ·intro hc2
    obtain rfl : x = 7 := by have := of_decide_eq_true hc2; omega
    refine (g6)<|(Qm) ?_
    refine yo rfl rfl ?_
    refine (Qf 6) ?_
    refine zjN (6 + 7) (Uu 172) (Uz 4) rfl rfl (by decide) (by omega) rfl ?_
    refine z4W (i := 0) (Uz 4) rfl rfl rfl rfl (by omega) (.inl rfl) ?_
    refine Qn<|(gz) ?_
    exact ⟨_, _, _, rfl, yt, (by first | exact ⟨by rw [wN]; rfl, fun h => hq1 (by rw [wN] at h; exact h)⟩ | exact ⟨by rw [yx hw, hml]; rfl, fun h => hq2 (by rw [yx hw, hml] at h; exact h)⟩ | exact ⟨by rw [yx hw, hml]; rfl, fun h => by rw [yx hw, hml] at h; cases h⟩ | exact ⟨rfl, fun _ => Zy (by decide) (by decide)⟩ | exact ⟨rfl, hq4⟩), 0, rfl⟩
   ·intro hc2
    have hx7 : ¬ x = 7 := by have := of_decide_eq_false hc2; omega
    refine Qk<|Qs<|QR ⟨[], 5, [], none, none⟩<|(gb) ?_
    refine wV 0 rfl rfl (Un 193) rfl (fun _ h => by cases h) (zhB (G := []) r es w x (by omega) (by omega)) ⟨_, _, rfl, fun _ => rfl⟩ rfl rfl fun v4_1 c4_1 hS4_1 => ?_
    obtain ⟨rfl, hq4⟩ := hS4_1
    refine (gt) ?_
    exact ⟨_, _, _, rfl, yt, (by first | exact ⟨by rw [wN]; rfl, fun h => hq1 (by rw [wN] at h; exact h)⟩ | exact ⟨by rw [yx hw, hml]; rfl, fun h => hq2 (by rw [yx hw, hml] at h; exact h)⟩ | exact ⟨by rw [yx hw, hml]; rfl, fun h => by rw [yx hw, hml] at h; cases h⟩ | exact ⟨rfl, fun _ => Zy (by decide) (by decide)⟩ | exact ⟨rfl, hq4⟩), 0, rfl⟩
theorem zgu (r : Nat) (es : List Ev) (w : Nat) (hw : w < 2) (v : Value) (l : LN) (hv : Shows G 1 v l.length ((ci l).map iv)) (ht : ∀ x ∈ l, 1 ≤ x ∧ x ≤ 7) (hz : l.length ≤ 1000) : Fq G [(⟨r, kst (stE es), 174⟩ : Blk)] 129 #[ptr r, ii w, v] (fun u l1 nw => nw = [] ∧ ∃ c', l1 = [⟨r, c', 174⟩] ∧ (u = Value.bool (z3z es w l) ∧ ((z3z es w l) = true → c' = kst (stE (es ++ ym w (l ++ [0])))))) := by
 refine zbS (n := 24) Tryz.func129 rfl rfl (by simp) (wm [ptr r, ii w, v] 0) (yR _) ?_
 refine (gc)<|(ge)<|(QC hv)<|(Qm)<|Qn<|Qb ?_
 refine QzK [(0, _), (1, _), (9, _), (10, _)] [] (fun kk E m => ∃ (j : Nat), kk = l.length - j ∧ E = [(11, ii j)] ∧ m = [(0, some ⟨r, kst (stE (es ++ (ym w l).take j)), 174⟩)] ∧ (j ≤ l.length) ∧ (∀ t, t < j → okT (es ++ (ym w l).take t) w (l.getD t 0) = true)) ⟨0, rfl, rfl, rfl, by omega, fun t ht => absurd ht (Nat.not_lt_zero t)⟩ ⟨rfl, rfl, rfl, rfl, rfl, trivial⟩ ⟨(by rw [z2g] <;> rfl), trivial⟩ ?_
 rintro kk E m ⟨j, rfl, rfl, rfl, hf0_0, hf0_1⟩
 simp only [zq, zx]
 refine (gq) ?_
 refine (Qcd) (fun hc0=>?_) fun hc0=>?_
 ·have hc0 : j < l.length := by omega
  refine Qk<|Qs<|Qb<|(g4) ?_
  refine yf hv (Uu 25) (Uz 3) rfl rfl (by omega) rfl ?_
  refine (QS) ?_
  refine zS hv ze (Uu 3) rfl rfl (VY (by omega)) rfl ?_
  refine Vt fun x hx => ?_
  refine (g3) ?_
  have hx9 := ht (l.getD j 0) (by rw [List.getD_eq_getElem?_getD, List.getElem?_eq_getElem (by omega)]; exact List.getElem_mem _)
  rw [← hx] at hx9
  refine Qs<|QR ⟨[], 5, [], none, none⟩<|(gb)<|(Qm) ?_
  refine wV 0 rfl rfl (Un 164) rfl (fun _ h => by cases h) (ziJ (G := []) r (es ++ (ym w l).take j) w x hw hx9.1 hx9.2) ⟨_, _, rfl, fun _ => rfl⟩ rfl rfl fun v2_1 c2_1 hS2_1 => ?_
  obtain ⟨rfl, hq1⟩ := hS2_1
  refine (Q0)<|Qn ?_
  refine zi rfl ?_ ?_
  ·intro hc1
   have hrow : z3z es w l = false := zce (show j < l.length by omega) (by rw [← hx]; simpa using hc1)
   refine (gz) ?_
   exact ⟨_, _, _, rfl, yt, (by first | exact ⟨by rw [hrow], fun h => by rw [hrow] at h; cases h⟩ | (rw [hz0, vK, z49 (fun t h => hf0_1 t (by omega)), z5i hw]; exact ⟨rfl, fun _ => z4S⟩)), 0, rfl⟩
  ·intro hc1
   have hok0 : okT (es ++ (ym w l).take j) w x = true := by simpa using hc1
   have hok : okT (es ++ (ym w l).take j) w (l.getD j 0) = true := by rw [← hx]; exact hok0
   obtain rfl := hq1 hok0
   refine Qk<|(gl) ?_
   refine QzL ⟨j + 1, rfl, rfl, rfl, by omega, fun t ht => by rcases (by omega : t < j ∨ t = j) with h | rfl; exact hf0_1 t h; exact hok⟩ ⟨rfl, rfl, rfl, rfl, rfl, trivial⟩ ⟨(by rw [WM (by omega), ← hx] <;> rfl), trivial⟩ ?_
   omega
 ·have hz0 : j = l.length := by omega
  refine Qe<|(g6)<|(Qm) ?_
  refine vj [_] rfl rfl (Un 165) ⟨⟨0, rfl⟩, trivial⟩ (VV (G := []) r _ w hw) rfl rfl rfl ?_
  refine (gt) ?_
  exact ⟨_, _, _, rfl, yt, (by first | exact ⟨by rw [hrow], fun h => by rw [hrow] at h; cases h⟩ | (rw [hz0, vK, z49 (fun t h => hf0_1 t (by omega)), z5i hw]; exact ⟨rfl, fun _ => z4S⟩)), 0, rfl⟩
theorem zam (base : LN) (late : Bool) (vp v0 v1 vt : Value) (tvs : List Value) (q0 q1 : LN) (us : List (LN)) (hvt : Shows G 1 vt tvs.length tvs) (hLI : zn G (v0 :: v1 :: tvs) (ci q0 :: ci q1 :: us.map ci)) (htk : ∀ q ∈ q0 :: q1 :: us, q.length ≤ 6 ∧ ∀ x ∈ q, 1 ≤ x ∧ x ≤ 7) (hn5 : us.length ≤ 5) : Fp G 90 #[.agg (cells 6 [pV (sv base), pV (.bool late), pV vp, pV v0, pV v1, pV vt])] (.bool (decide (z1o (evL late q0 q1 us) = 0))) := by
 have hT := zr (zr hLI)
 have hv0 := VC hLI
 have hv1 := VC (zr hLI)
 have hvq := z2q hv0 hv1
 have htl : tvs.length = us.length := by have := hT.1; rwa [List.length_map] at this
 obtain ⟨L, hL⟩ : ∃ L, L = evL late q0 q1 us := ⟨_, rfl⟩
 have hLl : L.length = 2 + us.length := by rw [hL]; exact z8n
 have hLa : ∀ a, a < 2 → L.getD a [] = ym a (qq q0 q1 a) := fun a ha => by rw [hL]; exact z8x ha
 have hLt : ∀ i, i < us.length → L.getD (2 + i) [] = ym (xO late i) (us.getD i [] ++ [0]) := fun i hi => by rw [hL]; exact z5E hi
 rw [← hL]
 have hqt : ∀ a, (qq q0 q1 a).length ≤ 6 ∧ ∀ x ∈ qq q0 q1 a, 1 ≤ x ∧ x ≤ 7 := fun a => by unfold qq; split; exact htk q0 (by simp); exact htk q1 (by simp)
 have hut : ∀ i, i < us.length → (us.getD i []).length ≤ 6 ∧ ∀ x ∈ us.getD i [], 1 ≤ x ∧ x ≤ 7 := fun i hi => htk _ (by rw [List.getD_eq_getElem?_getD, List.getElem?_eq_getElem hi]; simp)
 refine Qf1 Tryz.func90 ?_
 refine (g4)<|(Qh 0) fun r1=>(j3)<|(QH 1) fun r2=>Qn<|(gs)<|(Qf 3) ?_
 refine z7W (i := 0) (Uu 26) rfl (Uz 26) rfl rfl (by decide) rfl ⟨[], trivial⟩ ?_
 refine z6 (show _ = Value.agg (zN 2 (fun t => vq v0 v1 t)) from congrArg Value.agg (yy fun j hj => by have h9 : j = 0 ∨ j = 1 := (by omega); rcases h9 with rfl | rfl <;> rfl)) ?_
 refine (Qm)<|Qn<|Qb ?_
 refine QzK [(1, _), (3, _), (10, _)] [(0, _)] (fun kk E m => ∃ (a : Nat), kk = 2 - a ∧ E = [(11, ii a)] ∧ m = [(1, some ⟨r2, kst (stE (zj L a 0)), 174⟩)] ∧ (a ≤ 2) ∧ (∀ s t, s < a → t < (L.getD s []).length → vQ L s t = true)) ⟨0, rfl, rfl, rfl, by omega, fun _ _ h => absurd h (Nat.not_lt_zero _)⟩ ⟨rfl, rfl, rfl, rfl, trivial⟩ ⟨(by rw [X1, show (kst (stE []) : Array Value) = _ from yy fun j _ => by rw [zhH]] <;> rfl), rfl, trivial⟩ ?_
 rintro kk E m ⟨a, rfl, rfl, rfl, hf0_0, hf0_1⟩
 simp only [zq, zx]
 refine (gq) ?_
 refine (Qcd) (fun hc0=>?_) fun hc0=>?_
 ·have hc0 : a < 2 := by omega
  refine (jr) ?_
  refine z6Q (Uu 26) (Uu 25) rfl (Uz 25) rfl rfl (by omega) rfl ?_
  refine (g8)<|Qs<|QR ⟨[], 5, [], none, none⟩<|(gb) ?_
  refine wV 1 rfl rfl (Un 128) rfl (fun z hz => .inl hz) (zfp (G := G) r2 (zj L a 0) a (by omega) (vq v0 v1 a) (qq q0 q1 a) (hvq a (by omega)) (hqt a).2 (by have := (hqt a).1; omega)) ⟨_, _, rfl, fun _ => rfl⟩ rfl rfl fun v2_1 c2_1 hS2_1 => ?_
  obtain ⟨rfl, hq1⟩ := hS2_1
  refine (Q0)<|Qn ?_
  refine zi rfl ?_ ?_
  ·intro hc1
   have hbad : z48 (zj L a 0) a (qq q0 q1 a) = false := by simpa using hc1
   rw [zgP (by omega) (by omega) (hLa a (by omega)) hbad]
   refine (gz) ?_
   first | rw [YD (fun s t hs ht => by by_cases h2 : s < 2; exact hf0_1 s t (by omega) ht; (obtain ⟨s, rfl⟩ : ∃ r, s = 2 + r := ⟨s - 2, by omega⟩); exact hf1_1 s t (by omega) ht)] | skip
   exact ⟨_, rfl, yt⟩
  ·intro hc1
   have hok : z48 (zj L a 0) a (qq q0 q1 a) = true := by simpa using hc1
   obtain rfl := hq1 hok
   refine Qk<|(gl) ?_
   refine QzL ⟨a + 1, rfl, rfl, rfl, by omega, fun s t hs ht => by by_cases e : s = a; (subst e; exact ziC (by omega) (hLa s (by omega)) hok t ht); exact hf0_1 s t (by omega) ht⟩ ⟨rfl, rfl, rfl, rfl, trivial⟩ ⟨(by rw [← z5r (by omega), hLa a (by omega)] <;> rfl), rfl, trivial⟩ ?_
   omega
 ·have hz0 : a = 2 := by omega
  refine Qe<|(gc)<|(gs)<|(Qf 1)<|(QV 1 0)<|Qn ?_
  refine z0i [(1, _), (3, _), (10, _), (11, _), (12, _), (20, _), (21, _)] [(6, ii (xO late 0))] [(0, some _), (1, some ⟨r2, kst (stE (zj L a 0)), 174⟩)] ⟨rfl, rfl, rfl, rfl, rfl, rfl, rfl, trivial⟩ ⟨rfl, rfl, trivial⟩ ?_ ?_
  ·skip
   refine zi rfl ?_ ?_
   ·intro hc2
    have hcL := hc2
    refine Qp<|(g3) ?_
    exact ⟨⟨rfl, rfl, rfl, rfl, rfl, rfl, rfl, trivial⟩, ⟨(by rw [xO, hcL] <;> rfl), trivial⟩, ⟨rfl, rfl, trivial⟩⟩
   ·intro hc2
    have hcL := hc2
    refine Qk ?_
    exact ⟨⟨rfl, rfl, rfl, rfl, rfl, rfl, rfl, trivial⟩, ⟨(by rw [xO, hcL] <;> rfl), trivial⟩, ⟨rfl, rfl, trivial⟩⟩
  ·simp only [zq]
   refine (gs)<|(jd)<|(QC hvt)<|(Qm)<|Qn<|Qb ?_
   refine QzK [(1, _), (3, _), (10, _), (11, _), (23, _), (24, _)] [(0, _)] (fun kk E m => ∃ (i : Nat), kk = tvs.length - i ∧ E = [(6, ii (xO late i)), (25, ii i)] ∧ m = [(1, some ⟨r2, kst (stE (zj L (2 + i) 0)), 174⟩)] ∧ (i ≤ tvs.length) ∧ (∀ s t, s < i → t < (L.getD (2 + s) []).length → vQ L (2 + s) t = true)) ⟨0, rfl, rfl, rfl, by omega, fun _ _ h => absurd h (Nat.not_lt_zero _)⟩ ⟨rfl, rfl, rfl, rfl, rfl, rfl, rfl, rfl, trivial⟩ ⟨(by rw [hz0] <;> rfl), rfl, trivial⟩ ?_
   rintro kk E m ⟨i, rfl, rfl, rfl, hf1_0, hf1_1⟩
   simp only [zq, zx]
   have hwl := zhK late i
   refine (gq) ?_
   refine (Qcd) (fun hc3=>?_) fun hc3=>?_
   ·have hc3 : i < tvs.length := by omega
    refine Qk<|Qs<|Qb<|(g4) ?_
    refine yf hvt (Uu 27) (Uz 25) rfl rfl (by omega) rfl ?_
    refine (QS) ?_
    refine zS hvt ze (Uu 25) rfl rfl (xz (by omega)) rfl ?_
    refine (g3)<|Qs<|Qs<|QR ⟨[], 5, [], none, none⟩<|(gb) ?_
    refine wV 1 rfl rfl (Un 129) rfl (fun z hz => .inl hz) (zgu (G := G) r2 (zj L (2 + i) 0) (xO late i) hwl (tvs.getD i undef) (us.getD i []) (zia hT (by omega)) (hut i (by omega)).2 (by have := (hut i (by omega)).1; omega)) ⟨_, _, rfl, fun _ => rfl⟩ rfl rfl fun v4_1 c4_1 hS4_1 => ?_
    obtain ⟨rfl, hq2⟩ := hS4_1
    refine (Q0)<|Qn ?_
    refine zi rfl ?_ ?_
    ·intro hc4
     have hbad : z3z (zj L (2 + i) 0) (xO late i) (us.getD i []) = false := by simpa using hc4
     rw [zck (by omega) (hLt i (by omega)) hbad]
     refine (gz) ?_
     first | rw [YD (fun s t hs ht => by by_cases h2 : s < 2; exact hf0_1 s t (by omega) ht; (obtain ⟨s, rfl⟩ : ∃ r, s = 2 + r := ⟨s - 2, by omega⟩); exact hf1_1 s t (by omega) ht)] | skip
     exact ⟨_, rfl, yt⟩
    ·intro hc4
     have hok : z3z (zj L (2 + i) 0) (xO late i) (us.getD i []) = true := by simpa using hc4
     obtain rfl := hq2 hok
     refine Qk<|(je) ?_
     refine xR (p := 1) rfl rfl rfl (by omega) (by omega) ?_
     refine (jb) ?_
     refine QzL ⟨i + 1, rfl, rfl, rfl, by omega, fun s t hs ht => by by_cases e : s = i; (subst e; exact zhf (hLt s (by omega)) hok t ht); exact hf1_1 s t (by omega) ht⟩ ⟨(by rw [← zax] <;> rfl), rfl, rfl, rfl, rfl, rfl, rfl, rfl, trivial⟩ ⟨(by rw [show 2 + (i + 1) = 2 + i + 1 by omega, ← z5r (by omega), hLt i (by omega)] <;> rfl), rfl, trivial⟩ ?_
     omega
   ·have hz1 : i = tvs.length := by omega
    refine Qe<|(gz) ?_
    first | rw [YD (fun s t hs ht => by by_cases h2 : s < 2; exact hf0_1 s t (by omega) ht; (obtain ⟨s, rfl⟩ : ∃ r, s = 2 + r := ⟨s - 2, by omega⟩); exact hf1_1 s t (by omega) ht)] | skip
    exact ⟨_, rfl, yt⟩
theorem zc9 (base : LN) (late : Bool) (vp v0 v1 vt : Value) (tvs : List Value) (p0 p1 : List Int) (ts : List (List Int)) (hvt : Shows G 1 vt tvs.length tvs) (hLI : zn G (v0 :: v1 :: tvs) (p0 :: p1 :: ts)) (h : ts.length = 0 ∨ 5 < ts.length) : Fp G 51 #[.agg (cells 6 [pV (sv base), pV (.bool late), pV vp, pV v0, pV v1, pV vt])] (ii 1) := by
 have hT := zr (zr hLI)
 have htl : tvs.length = ts.length := hT.1
 refine Qf1 Tryz.func51 ?_
 refine (g4)<|(Qh 0) fun r1=>(g3)<|(gs) ?_
 refine yd [(0, _), (1, _), (2, _)] [(14, .bool (decide ((tvs.length : Int) < 1) || decide ((5 : Int) < (tvs.length : Int))))] [(0, some _)] ⟨rfl, rfl, rfl, trivial⟩ ⟨rfl, trivial⟩ ?_ ?_
 ·skip
  refine (jd)<|(QC hvt)<|(Ql)<|(Qm) ?_
  refine zo (fun hb0 => ?_) (fun hb0 => ?_)
  ·skip
   refine (gg)<|(QT)<|Qn ?_
   exact ⟨⟨rfl, rfl, rfl, trivial⟩, ⟨z4 (by rw [hb0] <;> rfl), trivial⟩, ⟨rfl, trivial⟩⟩
  ·skip
   refine (Qy)<|(Qf 5)<|(Qy)<|(QV 5 0)<|(Qy)<|(QC hvt)<|(Qy)<|(QG)<|(QF)<|Qn ?_
   exact ⟨⟨rfl, rfl, rfl, trivial⟩, ⟨z4 (by rw [hb0] <;> rfl), trivial⟩, ⟨rfl, trivial⟩⟩
 ·simp only [zq]
  refine zi rfl ?_ ?_
  ·intro hc0
   refine (gz) ?_
   exact ⟨_, rfl, yt⟩
  ·intro hc0
   exact absurd hc0 (by rcases h with h | h; (rw [decide_eq_true (by omega)]; simp); (rw [decide_eq_true (p := (5 : Int) < _) (by omega)]; simp))
theorem zfZ (base : LN) (late : Bool) (vp v0 v1 vt : Value) (tvs : List Value) (p0 p1 : List Int) (ts : List (List Int)) (hvt : Shows G 1 vt tvs.length tvs) (hLI : zn G (v0 :: v1 :: tvs) (p0 :: p1 :: ts)) (h1 : 1 ≤ ts.length) (h5 : ts.length ≤ 5) (f : Nat) (hf : y4 [p0, p1] = f) (hf0 : f ≠ 0) : Fp G 51 #[.agg (cells 6 [pV (sv base), pV (.bool late), pV vp, pV v0, pV v1, pV vt])] (ii f) := by
 have hT := zr (zr hLI)
 have htl : tvs.length = ts.length := hT.1
 refine Qf1 Tryz.func51 ?_
 refine (g4)<|(Qh 0) fun r1=>(g3)<|(gs) ?_
 refine yd [(0, _), (1, _), (2, _)] [(14, .bool (decide ((tvs.length : Int) < 1) || decide ((5 : Int) < (tvs.length : Int))))] [(0, some _)] ⟨rfl, rfl, rfl, trivial⟩ ⟨rfl, trivial⟩ ?_ ?_
 ·skip
  refine (jd)<|(QC hvt)<|(Ql)<|(Qm) ?_
  refine zo (fun hb0 => ?_) (fun hb0 => ?_)
  ·skip
   refine (gg)<|(QT)<|Qn ?_
   exact ⟨⟨rfl, rfl, rfl, trivial⟩, ⟨z4 (by rw [hb0] <;> rfl), trivial⟩, ⟨rfl, trivial⟩⟩
  ·skip
   refine (Qy)<|(Qf 5)<|(Qy)<|(QV 5 0)<|(Qy)<|(QC hvt)<|(Qy)<|(QG)<|(QF)<|Qn ?_
   exact ⟨⟨rfl, rfl, rfl, trivial⟩, ⟨z4 (by rw [hb0] <;> rfl), trivial⟩, ⟨rfl, trivial⟩⟩
 ·simp only [zq]
  refine zi rfl ?_ ?_
  ·intro hc0
   exact absurd hc0 (by rw [decide_eq_false (by omega), decide_eq_false (by omega)]; decide)
  ·intro hc0
   refine Qk<|(gs)<|(Qf 3)<|(Qsa 0 2) ?_
   refine zg rfl rfl (Un 89) (zf (zZ 0 rfl ⟨[], trivial⟩) ze) (XF (G := [(⟨r1, (cells 6 [pV (sv base), pV (.bool late), pV vp, pV v0, pV v1, pV vt]), 29⟩ : Blk)] ++ G) _ [v0, v1] [p0, p1] ((z2V (r := r1) (t := 29)).mono (fun x hx => List.mem_append_left _ hx)) (yF (z7b hLI) (fun x hx => List.mem_append_right _ hx)) (by simp)) rfl rfl ?_
   refine (Ai hf)<|(jm)<|(Qat)<|(gv)<|(g6)<|(gt) ?_
   exact ⟨_, rfl, yt⟩
theorem zaV (base : LN) (late : Bool) (vp v0 v1 vt : Value) (tvs : List Value) (p0 p1 : List Int) (ts : List (List Int)) (hvt : Shows G 1 vt tvs.length tvs) (hLI : zn G (v0 :: v1 :: tvs) (p0 :: p1 :: ts)) (h1 : 1 ≤ ts.length) (h5 : ts.length ≤ 5) (hp : y4 [p0, p1] = 0) (f : Nat) (hf : y4 ts = f) (hf0 : f ≠ 0) : Fp G 51 #[.agg (cells 6 [pV (sv base), pV (.bool late), pV vp, pV v0, pV v1, pV vt])] (ii f) := by
 have hT := zr (zr hLI)
 have htl : tvs.length = ts.length := hT.1
 refine Qf1 Tryz.func51 ?_
 refine (g4)<|(Qh 0) fun r1=>(g3)<|(gs) ?_
 refine yd [(0, _), (1, _), (2, _)] [(14, .bool (decide ((tvs.length : Int) < 1) || decide ((5 : Int) < (tvs.length : Int))))] [(0, some _)] ⟨rfl, rfl, rfl, trivial⟩ ⟨rfl, trivial⟩ ?_ ?_
 ·skip
  refine (jd)<|(QC hvt)<|(Ql)<|(Qm) ?_
  refine zo (fun hb0 => ?_) (fun hb0 => ?_)
  ·skip
   refine (gg)<|(QT)<|Qn ?_
   exact ⟨⟨rfl, rfl, rfl, trivial⟩, ⟨z4 (by rw [hb0] <;> rfl), trivial⟩, ⟨rfl, trivial⟩⟩
  ·skip
   refine (Qy)<|(Qf 5)<|(Qy)<|(QV 5 0)<|(Qy)<|(QC hvt)<|(Qy)<|(QG)<|(QF)<|Qn ?_
   exact ⟨⟨rfl, rfl, rfl, trivial⟩, ⟨z4 (by rw [hb0] <;> rfl), trivial⟩, ⟨rfl, trivial⟩⟩
 ·simp only [zq]
  refine zi rfl ?_ ?_
  ·intro hc0
   exact absurd hc0 (by rw [decide_eq_false (by omega), decide_eq_false (by omega)]; decide)
  ·intro hc0
   refine Qk<|(gs)<|(Qf 3)<|(Qsa 0 2) ?_
   refine zg rfl rfl (Un 89) (zf (zZ 0 rfl ⟨[], trivial⟩) ze) (XF (G := [(⟨r1, (cells 6 [pV (sv base), pV (.bool late), pV vp, pV v0, pV v1, pV vt]), 29⟩ : Blk)] ++ G) _ [v0, v1] [p0, p1] ((z2V (r := r1) (t := 29)).mono (fun x hx => List.mem_append_left _ hx)) (yF (z7b hLI) (fun x hx => List.mem_append_right _ hx)) (by simp)) rfl rfl ?_
   refine (Ai hp)<|(jm) ?_
   refine (Ab (decide_eq_false (by decide)))<|(jt)<|(jd) ?_
   refine (Ca (XF vt tvs ts hvt hT (by omega))) ?_
   refine (Ai hf)<|(jm)<|(Qat)<|(gv)<|(g6)<|(gt) ?_
   exact ⟨_, rfl, yt⟩
theorem zcH (base : LN) (late : Bool) (vp v0 v1 vt : Value) (tvs : List Value) (p0 p1 : List Int) (ts : List (List Int)) (hvt : Shows G 1 vt tvs.length tvs) (hLI : zn G (v0 :: v1 :: tvs) (p0 :: p1 :: ts)) (h1 : 1 ≤ ts.length) (h5 : ts.length ≤ 5) (hp : y4 [p0, p1] = 0) (hf : y4 ts = 0) (f : Nat) (hf3 : f = 0 ∨ f = 3) (hF : Fp G 90 #[.agg (cells 6 [pV (sv base), pV (.bool late), pV vp, pV v0, pV v1, pV vt])] (.bool (decide (f = 0)))) : Fp G 51 #[.agg (cells 6 [pV (sv base), pV (.bool late), pV vp, pV v0, pV v1, pV vt])] (ii f) := by
 have hT := zr (zr hLI)
 have htl : tvs.length = ts.length := hT.1
 refine Qf1 Tryz.func51 ?_
 refine (g4)<|(Qh 0) fun r1=>(g3)<|(gs) ?_
 refine yd [(0, _), (1, _), (2, _)] [(14, .bool (decide ((tvs.length : Int) < 1) || decide ((5 : Int) < (tvs.length : Int))))] [(0, some _)] ⟨rfl, rfl, rfl, trivial⟩ ⟨rfl, trivial⟩ ?_ ?_
 ·skip
  refine (jd)<|(QC hvt)<|(Ql)<|(Qm) ?_
  refine zo (fun hb0 => ?_) (fun hb0 => ?_)
  ·skip
   refine (gg)<|(QT)<|Qn ?_
   exact ⟨⟨rfl, rfl, rfl, trivial⟩, ⟨z4 (by rw [hb0] <;> rfl), trivial⟩, ⟨rfl, trivial⟩⟩
  ·skip
   refine (Qy)<|(Qf 5)<|(Qy)<|(QV 5 0)<|(Qy)<|(QC hvt)<|(Qy)<|(QG)<|(QF)<|Qn ?_
   exact ⟨⟨rfl, rfl, rfl, trivial⟩, ⟨z4 (by rw [hb0] <;> rfl), trivial⟩, ⟨rfl, trivial⟩⟩
 ·simp only [zq]
  refine zi rfl ?_ ?_
  ·intro hc0
   exact absurd hc0 (by rw [decide_eq_false (by omega), decide_eq_false (by omega)]; decide)
  ·intro hc0
   refine Qk<|(gs)<|(Qf 3)<|(Qsa 0 2) ?_
   refine zg rfl rfl (Un 89) (zf (zZ 0 rfl ⟨[], trivial⟩) ze) (XF (G := [(⟨r1, (cells 6 [pV (sv base), pV (.bool late), pV vp, pV v0, pV v1, pV vt]), 29⟩ : Blk)] ++ G) _ [v0, v1] [p0, p1] ((z2V (r := r1) (t := 29)).mono (fun x hx => List.mem_append_left _ hx)) (yF (z7b hLI) (fun x hx => List.mem_append_right _ hx)) (by simp)) rfl rfl ?_
   refine (Ai hp)<|(jm) ?_
   refine (Ab (decide_eq_false (by decide)))<|(jt)<|(jd) ?_
   refine (Ca (XF vt tvs ts hvt hT (by omega))) ?_
   refine (Ai hf)<|(jm) ?_
   refine (Ab (decide_eq_false (by decide)))<|(go)<|Qs<|(gd) ?_
   refine (Ca hF)<|(Q0)<|Qn ?_
   refine zi rfl ?_ ?_
   ·intro hc3
    obtain rfl : f = 3 := by have : ¬ f = 0 := (by simpa using hc3); omega
    refine (gz) ?_
    exact ⟨_, rfl, yt⟩
   ·intro hc3
    obtain rfl : f = 0 := by simpa using hc3
    refine Qk<|(gz) ?_
    exact ⟨_, rfl, yt⟩
theorem zgk {G : Mem} (base : LN) (late : Bool) (vp v0 v1 vt : Value) (tvs : List Value) (p0 p1 : List Int) (ts : List (List Int)) (hvt : Shows G 1 vt tvs.length tvs) (hLI : zn G (v0 :: v1 :: tvs) (p0 :: p1 :: ts)) : Fp G 51 #[.agg (cells 6 [pV (sv base), pV (.bool late), pV vp, pV v0, pV v1, pV vt])] (ii (zM late p0 p1 ts)) := by
 by_cases h0 : ts.length = 0 ∨ 5 < ts.length
 ·rw [zM, if_pos h0]; exact zc9 base late vp v0 v1 vt tvs p0 p1 ts hvt hLI h0
 by_cases hp : y4 [p0, p1] = 0
 ·by_cases hf : y4 ts = 0
  ·have h00 : y4 (p0 :: p1 :: ts) = 0 := by rw [ZN, if_pos hp, hf]
   have hz := wU h00
   have e0 := Zo (hz p0 (by simp)).2
   have e1 := Zo (hz p1 (by simp)).2
   have et : ts = (ts.map fun t => t.map Int.toNat).map ci := by
    rw [List.map_map]
    conv => lhs; rw [← List.map_id ts]
    exact List.map_congr_left fun t ht => Zo (hz t (by simp [ht])).2
   rw [zM, if_neg h0, if_pos h00]
   refine zcH base late vp v0 v1 vt tvs p0 p1 ts hvt hLI (by omega) (by omega) hp hf _ (by unfold z1o; split <;> simp) ?_
   have hall : y4 ((p0.map Int.toNat :: p1.map Int.toNat :: (ts.map fun t => t.map Int.toNat)).map ci) = 0 := by
    rw [List.map_cons, List.map_cons, ← e0, ← e1, ← et]; exact h00
   exact zam base late vp v0 v1 vt tvs (p0.map Int.toNat) (p1.map Int.toNat) (ts.map fun t => t.map Int.toNat) hvt (by rw [← e0, ← e1, ← et]; exact hLI) (z40 hall) (by rw [List.length_map]; omega)
  ·rw [zM, if_neg h0, ZN, if_pos hp, if_neg hf]
   exact zaV base late vp v0 v1 vt tvs p0 p1 ts hvt hLI (by omega) (by omega) hp _ rfl hf
 ·rw [zM, if_neg h0, ZN, if_neg hp, if_neg hp]
  exact zfZ base late vp v0 v1 vt tvs p0 p1 ts hvt hLI (by omega) (by omega) _ rfl hp
theorem ZC (b : LN) (l : Bool) (vp v0 v1 vt : Value) (fi : Bool) (tn : Int) (dd : Bool) (y : SY) (r : RS) (ow : NN) (vk : Value) (us : Int) (f0 : Bool) (p0 p1 : List Int) (tvs : List Value) (ts : List (List Int)) (hvt : Shows G 1 vt tvs.length tvs) (hLI : zn G (v0 :: v1 :: tvs) (p0 :: p1 :: ts)) : Fp G 28 #[.agg (shC b l vp v0 v1 vt fi tn dd y ow r vk us), .bool f0] (.bool (YO dd tn tvs.length us f0 l (zM l p0 p1 ts))) := by
 refine Qf1 Tryz.func28 ?_
 refine (g4)<|(Qh 0) fun r1=>(g3)<|(gs) ?_
 refine yd [(0, _), (1, _), (2, _), (4, _)] [(26, .bool (dd || (decide (us < 0) || (decide (tn < 0) || decide ((tvs.length : Int) ≤ tn)))))] [(0, some _)] ⟨rfl, rfl, rfl, rfl, trivial⟩ ⟨rfl, trivial⟩ ?_ ?_
 ·skip
  refine (Qf 8)<|(QV 8 0)<|(Qm) ?_
  refine zo (b := dd) (fun hb0 => ?_) (fun hb0 => ?_)
  ·skip
   refine (gw)<|(QT)<|(Qm)<|(gw)<|(QT)<|(j5)<|(gw)<|(QT)<|Qn ?_
   exact ⟨⟨rfl, rfl, rfl, rfl, trivial⟩, ⟨z4 (by rw [hb0] <;> rfl), trivial⟩, ⟨rfl, trivial⟩⟩
  ·skip
   refine (Qy)<|(Qf 239)<|(Qy)<|(QV 22 0)<|(Qy)<|(Ql)<|(QF)<|(Qm) ?_
   refine zo (b := decide (us < 0)) (fun hb1 => ?_) (fun hb1 => ?_)
   ·skip
    refine (gw)<|(QT)<|(j5)<|(gw)<|(QT)<|Qn ?_
    exact ⟨⟨rfl, rfl, rfl, rfl, trivial⟩, ⟨z4 (by rw [hb0, hb1] <;> rfl), trivial⟩, ⟨rfl, trivial⟩⟩
   ·skip
    refine (Qy)<|(Qf 7)<|(Qy)<|(QV 7 0)<|(Qy)<|(Ql)<|(QF)<|(Qm) ?_
    refine zo (b := decide (tn < 0)) (fun hb2 => ?_) (fun hb2 => ?_)
    ·skip
     refine (gg)<|(gw)<|(QT)<|Qn ?_
     exact ⟨⟨rfl, rfl, rfl, rfl, trivial⟩, ⟨z4 (by rw [hb0, hb1, hb2] <;> rfl), trivial⟩, ⟨rfl, trivial⟩⟩
    ·skip
     refine (Qy)<|(Qf 7)<|(Qy)<|(QV 7 0)<|(Qy)<|(Qf 0)<|(Qy)<|(Qf 5)<|(Qy)<|(QV 5 0)<|(Qy)<|(QC hvt)<|(Qy)<|(QE)<|(QF)<|Qn ?_
     exact ⟨⟨rfl, rfl, rfl, rfl, trivial⟩, ⟨z4 (by rw [hb0, hb1, hb2] <;> rfl), trivial⟩, ⟨rfl, trivial⟩⟩
 ·simp only [zq]
  refine zi rfl ?_ ?_
  ·intro hc0
   rw [show YO dd tn tvs.length us f0 l (zM l p0 p1 ts) = false from if_pos (zkX hc0)]
   refine (gz) ?_
   exact ⟨_, rfl, yt⟩
  ·intro hc0
   have hg := zl0 hc0
   obtain ⟨tq, rfl⟩ : ∃ tq : Nat, tn = (tq : Int) := ⟨tn.toNat, by omega⟩
   rw [show YO dd (tq : Int) tvs.length us f0 l (zM l p0 p1 ts) = _ from if_neg hg]
   rw [Int.toNat_natCast]
   refine Qk<|(g4)<|(Qf 7)<|(QV 7 0)<|(Q4 2)<|(Qc)<|(j3) ?_
   refine yd [(0, _), (1, _), (2, _), (5, _), (26, _), (27, _), (28, _), (29, _), (30, _)] [(4, .bool ((f0 == (decide (((tq % 2 : Nat) : Int) = 0) != l)) && decide (((zM l p0 p1 ts : Nat) : Int) = 0))), (43, .bool ((f0 == (decide (((tq % 2 : Nat) : Int) = 0) != l)) && decide (((zM l p0 p1 ts : Nat) : Int) = 0)))] [(0, some _)] ⟨rfl, rfl, rfl, rfl, rfl, rfl, rfl, rfl, rfl, trivial⟩ ⟨rfl, trivial⟩ ?_ ?_
   ·skip
    refine (gb)<|(Qf 0)<|(Qf 1)<|(QV 1 0) ?_
    refine zkv (Uu 4) rfl rfl rfl ?_
    refine XU (Uu 4) rfl rfl rfl ?_
    refine (Qm) ?_
    refine zo (b := (f0 == (decide (((tq % 2 : Nat) : Int) = 0) != l))) (fun hb3 => ?_) (fun hb3 => ?_)
    ·skip
     refine (Qy)<|(Qf 0)<|(Qy)<|(QlK 0 0 6)<|(Qy) ?_
     refine (Ca (zgk b l vp v0 v1 vt tvs p0 p1 ts hvt hLI))<|(Qy)<|(Qc)<|(QT)<|(g3) ?_
     exact ⟨⟨rfl, rfl, rfl, rfl, rfl, rfl, rfl, rfl, rfl, trivial⟩, ⟨z4 (by rw [hb3] <;> rfl), z4 (by rw [hb3] <;> rfl), trivial⟩, ⟨rfl, trivial⟩⟩
    ·skip
     refine (gg)<|(QF)<|(g3) ?_
     exact ⟨⟨rfl, rfl, rfl, rfl, rfl, rfl, rfl, rfl, rfl, trivial⟩, ⟨z4 (by rw [hb3] <;> rfl), z4 (by rw [hb3] <;> rfl), trivial⟩, ⟨rfl, trivial⟩⟩
   ·simp only [zq]
    refine Qr ?_
    exact ⟨_, rfl, yt⟩
theorem zdW (b : LN) (l : Bool) (vp v0 v1 vt : Value) (fi : Bool) (tn : Int) (dd : Bool) (y : SY) (r : RS) (ow : NN) (vk : Value) (us : Int) (y2 : SY) (r2v : RS) (u2 : Int) (vb : Value) (e : Nat) (h1 : xU vp v0 v1 vt vk) (he : e ≠ 0) : Fp G 30 #[.agg (shC b l vp v0 v1 vt fi tn dd y ow r vk us), .agg (shC b l vp v0 v1 vt fi tn dd y2 ow r2v vk u2), vb, ii e] (.tuple #[.agg (shC b l vp v0 v1 vt fi tn true y ow r vk us), yg, ii e]) := by
 refine Qf3 Tryz.func30 ?_
 refine (g4)<|(Qh 0) fun r1=>(Qh 1) fun r2=>(QH 2) fun r3=>(ja)<|(QN)<|Qn ?_
 refine zi rfl ?_ ?_
 ·intro hc0
  refine (g4)<|(Qf 8)<|(QtV 0 8)<|Qn<|(gd)<|(Qm) ?_
  refine z5 (i := 2) (Uz 37) rfl rfl (z3 _ _) (z7 ⟨fun _ => rfl, fun _ => rfl, fun _ => h1.1, fun _ => h1.2.1, fun _ => h1.2.2.1, fun _ => h1.2.2.2.1, fun _ => rfl, fun _ => rfl, fun _ => rfl, fun _ => rfl, fun _ => rfl, fun _ => rfl, fun _ => rfl, fun _ => rfl, fun _ => rfl, fun _ => rfl, fun _ => rfl, fun _ => rfl, fun _ => rfl, fun _ => rfl, fun _ => rfl, fun _ => h1.2.2.2.2, fun _ => rfl, trivial⟩) rfl za (.inl rfl) ?_
  refine (h8) ?_
  exact ⟨_, _, _, rfl, yb 2, yt, yt⟩
 ·intro hc0
  exact absurd (of_decide_eq_false hc0) (by omega)
theorem zgc (b : LN) (l : Bool) (vp v0 v1 vt : Value) (fi : Bool) (tq : Nat) (dd : Bool) (y : SY) (r : RS) (ow : NN) (vk : Value) (us : Int) (y2 : SY) (r2v : RS) (u2 : Int) (vb : Value) (e : Nat) (h1 : xU vp v0 v1 vt vk) (he : e = 0) (htz : tq < 1000000) : Fp G 30 #[.agg (shC b l vp v0 v1 vt fi ((tq : Nat) : Int) dd y ow r vk us), .agg (shC b l vp v0 v1 vt fi ((tq : Nat) : Int) dd y2 ow r2v vk u2), vb, ii e] (.tuple #[.agg (shC b l vp v0 v1 vt fi ((tq + 1 : Nat) : Int) dd y2 ow r2v vk u2), vb, ii 0]) := by
 refine Qf3 Tryz.func30 ?_
 refine (g4)<|(Qh 0) fun r1=>(Qh 1) fun r2=>(QH 2) fun r3=>(ja)<|(QN)<|Qn ?_
 refine zi rfl ?_ ?_
 ·intro hc0
  exact absurd (of_decide_eq_true hc0) (by omega)
 ·intro hc0
  refine Qk<|(g4)<|(Qf 7)<|(QV 7 1)<|(Q2 1)<|(Qf 7)<|(QtV 1 7) ?_
  refine yM (c' := shC b l vp v0 v1 vt fi ((tq + 1 : Nat) : Int) dd y2 ow r2v vk u2) rfl ?_
  refine (gj)<|(QD 1)<|(Qm) ?_
  refine z5 (i := 2) (Uz 37) rfl rfl (z3 _ _) (z7 ⟨fun _ => rfl, fun _ => rfl, fun _ => h1.1, fun _ => h1.2.1, fun _ => h1.2.2.1, fun _ => h1.2.2.2.1, fun _ => rfl, fun _ => rfl, fun _ => rfl, fun _ => rfl, fun _ => rfl, fun _ => rfl, fun _ => rfl, fun _ => rfl, fun _ => rfl, fun _ => rfl, fun _ => rfl, fun _ => rfl, fun _ => rfl, fun _ => rfl, fun _ => rfl, fun _ => h1.2.2.2.2, fun _ => rfl, trivial⟩) rfl za (.inl rfl) ?_
  refine (h8) ?_
  exact ⟨_, _, _, rfl, yb 2, yt, yt⟩
set_option maxRecDepth 20000 in
theorem z5t (b : LN) (l : Bool) (vp v0 v1 vt : Value) (fi : Bool) (tn : Int) (dd : Bool) (y : SY) (r : RS) (ow : NN) (vk : Value) (us : Int) (ps : List (NN)) (qs p0 p1 : List Int) (tvs : List Value) (ts : List (List Int)) (hk : Shows G 32 vk ps.length (psC ps)) (hvp : Shows G 1 vp qs.length (qs.map iv)) (hvt : Shows G 1 vt tvs.length tvs) (hLI : zn G (v0 :: v1 :: tvs) (p0 :: p1 :: ts)) (zk : ps.length * 32 ≤ 140737488355328) (zp : qs.length * 8 ≤ 140737488355328) (zt : tvs.length * 24 ≤ 140737488355328) (zl : ∀ q ∈ p0 :: p1 :: ts, q.length * 8 ≤ 140737488355328) (sc : NN) (vx : Value) (hm : YO dd tn ts.length us fi l (zM l p0 p1 ts) = false) : Fq G [] 9 #[.agg (shC b l vp v0 v1 vt fi tn dd y ow r vk us), .agg (arr .u8 32 sc), vx] (fun v l1 nw => l1 = [] ∧ zfw b l qs p0 p1 ts ps fi tn dd y ow r us 9 [] v nw) := by
 refine zhY (n := 40) Tryz.func9 rfl rfl (by simp) (wm [.agg (shC b l vp v0 v1 vt fi tn dd y ow r vk us), .agg (arr .u8 32 sc), vx] 0) (yR _) ?_
 refine (g4)<|(Qh 0) fun r1=>(Qh 1) fun r2=>(QH 2) fun r3=>(g8)<|Qs<|QR ⟨[], 4, [], none, none⟩<|(QD 0) ?_
 refine xg [(0, _), (1, _), (2, _)] (by repeat (first | exact zu | exact zw _ | apply zm rfl)) ⟨rfl, rfl, rfl, trivial⟩ rfl rfl rfl (Un 27) ze (Yo b l vp v0 v1 vt fi tn dd y r ow vk us ps qs p0 p1 tvs ts hk hvp hvt hLI zk zp zt zl) (Zw b l qs p0 p1 ts ps fi tn dd y ow r us) rfl rfl fun v1_1 nw1_1 hD1_1 => ?_
 simp only [zx]
 obtain ⟨uP, a0, a1, uT, uK, xs, rfl, sP, sT, sL, sK, h1⟩ := hD1_1
 have hxl : xs.length = ts.length := (zr (zr sL)).1
 refine z5 (i := 0) (Uz 37) rfl rfl (z3 _ _) (z7 ⟨fun _ => rfl, fun _ => rfl, fun _ => h1.1, fun _ => h1.2.1, fun _ => h1.2.2.1, fun _ => h1.2.2.2.1, fun _ => rfl, fun _ => rfl, fun _ => rfl, fun _ => rfl, fun _ => rfl, fun _ => rfl, fun _ => rfl, fun _ => rfl, fun _ => rfl, fun _ => rfl, fun _ => rfl, fun _ => rfl, fun _ => rfl, fun _ => rfl, fun _ => rfl, fun _ => h1.2.2.2.2, fun _ => rfl, trivial⟩) rfl za (.inl rfl) ?_
 refine Qn<|Qs<|(gd)<|(Qf 6)<|(QV 6 0) ?_
 refine zg rfl rfl (Un 28) (yr (by repeat (first | exact zu | exact zw _ | apply zm rfl)) rfl) (ZC b l uP a0 a1 uT fi tn dd y r ow uK us fi p0 p1 xs ts sT sL) rfl rfl ?_
 refine z6 (show _ = Value.bool false by rw [hxl, hm]) ?_
 refine (Q0)<|(gv)<|(gd) ?_
 refine z5 (i := 2) (Uz 37) rfl rfl (z3 _ _) (z7 ⟨fun _ => rfl, fun _ => rfl, fun _ => h1.1, fun _ => h1.2.1, fun _ => h1.2.2.1, fun _ => h1.2.2.2.1, fun _ => rfl, fun _ => rfl, fun _ => rfl, fun _ => rfl, fun _ => rfl, fun _ => rfl, fun _ => rfl, fun _ => rfl, fun _ => rfl, fun _ => rfl, fun _ => rfl, fun _ => rfl, fun _ => rfl, fun _ => rfl, fun _ => rfl, fun _ => h1.2.2.2.2, fun _ => rfl, trivial⟩) rfl za (.inl rfl) ?_
 refine (h8) ?_
 exact ⟨_, _, _, _, _, _, ([] ++ nw1_1), rfl, yb 2, yt, yt, ⟨_, yg, rfl, ⟨uP, a0, a1, uT, uK, xs, rfl, sP, sT, sL, sK, h1⟩, yI _ 1⟩, (by repeat (first | exact zu | exact zw _ | apply zm rfl))⟩
set_option maxRecDepth 20000 in
theorem z6F (b : LN) (l : Bool) (vp v0 v1 vt : Value) (fi : Bool) (tn : Int) (dd : Bool) (y : SY) (r : RS) (ow : NN) (vk : Value) (us : Int) (ps : List (NN)) (qs p0 p1 : List Int) (tvs : List Value) (ts : List (List Int)) (hk : Shows G 32 vk ps.length (psC ps)) (hvp : Shows G 1 vp qs.length (qs.map iv)) (hvt : Shows G 1 vt tvs.length tvs) (hLI : zn G (v0 :: v1 :: tvs) (p0 :: p1 :: ts)) (zk : ps.length * 32 ≤ 140737488355328) (zp : qs.length * 8 ≤ 140737488355328) (zt : tvs.length * 24 ≤ 140737488355328) (zl : ∀ q ∈ p0 :: p1 :: ts, q.length * 8 ≤ 140737488355328) (sc : NN) (vx : Value) (tx : LN) (hvt9 : Sh G vx tx) (htb : By tx) (hm : YO dd tn ts.length us fi l (zM l p0 p1 ts) = true) (hs : 400 < tx.length) : Fq G [] 9 #[.agg (shC b l vp v0 v1 vt fi tn dd y ow r vk us), .agg (arr .u8 32 sc), vx] (fun v l1 nw => l1 = [] ∧ zfw b l qs p0 p1 ts ps fi tn dd y ow r us 1 [] v nw) := by
 have _u1 := htb
 refine zhY (n := 40) Tryz.func9 rfl rfl (by simp) (wm [.agg (shC b l vp v0 v1 vt fi tn dd y ow r vk us), .agg (arr .u8 32 sc), vx] 0) (yR _) ?_
 refine (g4)<|(Qh 0) fun r1=>(Qh 1) fun r2=>(QH 2) fun r3=>(g8)<|Qs<|QR ⟨[], 4, [], none, none⟩<|(QD 0) ?_
 refine xg [(0, _), (1, _), (2, _)] (by repeat (first | exact zu | exact zw _ | apply zm rfl)) ⟨rfl, rfl, rfl, trivial⟩ rfl rfl rfl (Un 27) ze (Yo b l vp v0 v1 vt fi tn dd y r ow vk us ps qs p0 p1 tvs ts hk hvp hvt hLI zk zp zt zl) (Zw b l qs p0 p1 ts ps fi tn dd y ow r us) rfl rfl fun v1_1 nw1_1 hD1_1 => ?_
 simp only [zx]
 obtain ⟨uP, a0, a1, uT, uK, xs, rfl, sP, sT, sL, sK, h1⟩ := hD1_1
 have hxl : xs.length = ts.length := (zr (zr sL)).1
 refine z5 (i := 0) (Uz 37) rfl rfl (z3 _ _) (z7 ⟨fun _ => rfl, fun _ => rfl, fun _ => h1.1, fun _ => h1.2.1, fun _ => h1.2.2.1, fun _ => h1.2.2.2.1, fun _ => rfl, fun _ => rfl, fun _ => rfl, fun _ => rfl, fun _ => rfl, fun _ => rfl, fun _ => rfl, fun _ => rfl, fun _ => rfl, fun _ => rfl, fun _ => rfl, fun _ => rfl, fun _ => rfl, fun _ => rfl, fun _ => rfl, fun _ => h1.2.2.2.2, fun _ => rfl, trivial⟩) rfl za (.inl rfl) ?_
 refine Qn<|Qs<|(gd)<|(Qf 6)<|(QV 6 0) ?_
 refine zg rfl rfl (Un 28) (yr (by repeat (first | exact zu | exact zw _ | apply zm rfl)) rfl) (ZC b l uP a0 a1 uT fi tn dd y r ow uK us fi p0 p1 xs ts sT sL) rfl rfl ?_
 refine z6 (show _ = Value.bool true by rw [hxl, hm]) ?_
 refine (Q0)<|(go)<|(ge)<|(QC hvt9)<|(QG)<|Qn ?_
 refine zi rfl ?_ ?_
 ·intro hc1
  refine (gd) ?_
  refine z5 (i := 2) (Uz 37) rfl rfl (z3 _ _) (z7 ⟨fun _ => rfl, fun _ => rfl, fun _ => h1.1, fun _ => h1.2.1, fun _ => h1.2.2.1, fun _ => h1.2.2.2.1, fun _ => rfl, fun _ => rfl, fun _ => rfl, fun _ => rfl, fun _ => rfl, fun _ => rfl, fun _ => rfl, fun _ => rfl, fun _ => rfl, fun _ => rfl, fun _ => rfl, fun _ => rfl, fun _ => rfl, fun _ => rfl, fun _ => rfl, fun _ => h1.2.2.2.2, fun _ => rfl, trivial⟩) rfl za (.inl rfl) ?_
  refine (h8) ?_
  exact ⟨_, _, _, _, _, _, ([] ++ nw1_1), rfl, yb 2, yt, yt, ⟨_, yg, rfl, ⟨uP, a0, a1, uT, uK, xs, rfl, sP, sT, sL, sK, h1⟩, yI _ 1⟩, (by repeat (first | exact zu | exact zw _ | apply zm rfl))⟩
 ·intro hc1
  exact absurd (of_decide_eq_false hc1) (by omega)
set_option maxRecDepth 20000 in
theorem zcD (b : LN) (l : Bool) (vp v0 v1 vt : Value) (fi : Bool) (tq : Nat) (dd : Bool) (y : SY) (r : RS) (ow : NN) (vk : Value) (us : Nat) (ps : List (NN)) (qs p0 p1 : List Int) (tvs : List Value) (ts : List (List Int)) (hk : Shows G 32 vk ps.length (psC ps)) (hvp : Shows G 1 vp qs.length (qs.map iv)) (hvt : Shows G 1 vt tvs.length tvs) (hLI : zn G (v0 :: v1 :: tvs) (p0 :: p1 :: ts)) (zk : ps.length * 32 ≤ 140737488355328) (zp : qs.length * 8 ≤ 140737488355328) (zt : tvs.length * 24 ≤ 140737488355328) (zl : ∀ q ∈ p0 :: p1 :: ts, q.length * 8 ≤ 140737488355328) (hO : DOR ∈ G) (hp : okP ps) (hy : okY y) (hr : okR r) (ho : B32 ow) (sc : NN) (hs : B32 sc) (vx : Value) (tx : LN) (hvt9 : Sh G vx tx) (htb : By tx) (q : LN) (hqe : ts.getD tq [] = ci q) (hq7 : ∀ x ∈ q, 1 ≤ x ∧ x ≤ 7) (hq6 : q.length ≤ 6) (htl : tq < ts.length) (htz : tq < 1000000) (hm : YO dd ((tq : Nat) : Int) ts.length ((us : Nat) : Int) fi l (zM l p0 p1 ts) = true) (hlt : tx.length ≤ 400) (w : Nat × SS × LN) (hw : wR fi ow ps sc q (y, r, us) tx = w) (h0 : w.1 = 0) : Fq G [] 9 #[.agg (shC b l vp v0 v1 vt fi ((tq : Nat) : Int) dd y ow r vk ((us : Nat) : Int)), .agg (arr .u8 32 sc), vx] (fun v l1 nw => l1 = [] ∧ zfw b l qs p0 p1 ts ps fi ((tq + 1 : Nat) : Int) dd w.2.1.1 ow w.2.1.2.1 ((w.2.1.2.2 : Nat) : Int) 0 w.2.2 v nw) := by
 have hwl : w.2.2.length ≤ 1000 := by rw [← hw]; have := WW (fi := fi) (ow := ow) (ps := ps) (sc := sc) q (y, r, us) tx; omega
 have _u1 := htz
 refine zhY (n := 40) Tryz.func9 rfl rfl (by simp) (wm [.agg (shC b l vp v0 v1 vt fi ((tq : Nat) : Int) dd y ow r vk ((us : Nat) : Int)), .agg (arr .u8 32 sc), vx] 0) (yR _) ?_
 refine (g4)<|(Qh 0) fun r1=>(Qh 1) fun r2=>(QH 2) fun r3=>(g8)<|Qs<|QR ⟨[], 4, [], none, none⟩<|(QD 0) ?_
 refine xg [(0, _), (1, _), (2, _)] (by repeat (first | exact zu | exact zw _ | apply zm rfl)) ⟨rfl, rfl, rfl, trivial⟩ rfl rfl rfl (Un 27) ze (Yo b l vp v0 v1 vt fi ((tq : Nat) : Int) dd y r ow vk ((us : Nat) : Int) ps qs p0 p1 tvs ts hk hvp hvt hLI zk zp zt zl) (Zw b l qs p0 p1 ts ps fi ((tq : Nat) : Int) dd y ow r ((us : Nat) : Int)) rfl rfl fun v1_1 nw1_1 hD1_1 => ?_
 simp only [zx]
 obtain ⟨uP, a0, a1, uT, uK, xs, rfl, sP, sT, sL, sK, h1⟩ := hD1_1
 have hxl : xs.length = ts.length := (zr (zr sL)).1
 refine z5 (i := 0) (Uz 37) rfl rfl (z3 _ _) (z7 ⟨fun _ => rfl, fun _ => rfl, fun _ => h1.1, fun _ => h1.2.1, fun _ => h1.2.2.1, fun _ => h1.2.2.2.1, fun _ => rfl, fun _ => rfl, fun _ => rfl, fun _ => rfl, fun _ => rfl, fun _ => rfl, fun _ => rfl, fun _ => rfl, fun _ => rfl, fun _ => rfl, fun _ => rfl, fun _ => rfl, fun _ => rfl, fun _ => rfl, fun _ => rfl, fun _ => h1.2.2.2.2, fun _ => rfl, trivial⟩) rfl za (.inl rfl) ?_
 refine Qn<|Qs<|(gd)<|(Qf 6)<|(QV 6 0) ?_
 refine zg rfl rfl (Un 28) (yr (by repeat (first | exact zu | exact zw _ | apply zm rfl)) rfl) (ZC b l uP a0 a1 uT fi ((tq : Nat) : Int) dd y r ow uK ((us : Nat) : Int) fi p0 p1 xs ts sT sL) rfl rfl ?_
 refine z6 (show _ = Value.bool true by rw [hxl, hm]) ?_
 refine (Q0)<|(go)<|(ge)<|(QC hvt9)<|(QG)<|Qn ?_
 refine zi rfl ?_ ?_
 ·intro hc1
  exact absurd (of_decide_eq_true hc1) (by omega)
 ·intro hc1
  refine Qk<|Qs<|QR ⟨[], 4, [], none, none⟩<|(QD 0)<|(Qd 1)<|(Qm) ?_
  refine zG 3 (fun v => .tuple #[.agg (shC b l uP a0 a1 uT fi ((tq : Nat) : Int) dd w.2.1.1 ow w.2.1.2.1 uK ((w.2.1.2.2 : Nat) : Int)), v, ii w.1]) rfl rfl (Un 29) (zf ze (yr (by repeat (first | exact zu | exact zw _ | apply zm rfl)) rfl)) (z19 (G := G ++ nw1_1) (List.mem_append_left _ hO) b l uP a0 a1 uT fi tq dd y r ow uK us ps (sK.mono (fun x hx => List.mem_append_right _ hx)) hp h1 hy hr ho sc hs q xs (sT.mono (fun x hx => List.mem_append_right _ hx)) (by omega) ((z3R (zr (zr sL)) htl hqe).mono (fun x hx => List.mem_append_right _ hx)) hq7 hq6 vx tx (hvt9.mono (fun x hx => List.mem_append_left _ hx)) htb (by omega) w hw) (by simp only [maxLen]; omega) (by rw [List.length_map, Nat.mul_one]) rfl rfl fun v3_2 oz3_2 ho3_2 => ?_
  refine (jn)<|(QH 4) fun r5=>?_
  refine z5 (i := 4) (Uz 37) rfl rfl (z3 _ _) (z7 ⟨fun _ => rfl, fun _ => rfl, fun _ => h1.1, fun _ => h1.2.1, fun _ => h1.2.2.1, fun _ => h1.2.2.2.1, fun _ => rfl, fun _ => rfl, fun _ => rfl, fun _ => rfl, fun _ => rfl, fun _ => rfl, fun _ => rfl, fun _ => rfl, fun _ => rfl, fun _ => rfl, fun _ => rfl, fun _ => rfl, fun _ => rfl, fun _ => rfl, fun _ => rfl, fun _ => h1.2.2.2.2, fun _ => rfl, trivial⟩) rfl za (.inl rfl) ?_
  refine (g8)<|(gd)<|(QD 4)<|(gb) ?_
  refine (Ca (zgc b l uP a0 a1 uT fi tq dd y r ow uK ((us : Nat) : Int) w.2.1.1 w.2.1.2.1 ((w.2.1.2.2 : Nat) : Int) _ w.1 h1 h0 htz)) ?_
  refine z4d 3 [(0, _), (1, _), (2, _), (4, _)] rfl rfl (by repeat (first | exact zu | exact zw _ | apply zm rfl)) ⟨rfl, rfl, rfl, rfl, trivial⟩ rfl rfl ?_
  simp only [zx]
  refine (ga)<|(Qx) ?_
  refine z5 (i := 2) (Uz 37) rfl rfl (z3 _ _) (z7 ⟨fun _ => rfl, fun _ => rfl, fun _ => h1.1, fun _ => h1.2.1, fun _ => h1.2.2.1, fun _ => h1.2.2.2.1, fun _ => rfl, fun _ => rfl, fun _ => rfl, fun _ => rfl, fun _ => rfl, fun _ => rfl, fun _ => rfl, fun _ => rfl, fun _ => rfl, fun _ => rfl, fun _ => rfl, fun _ => rfl, fun _ => rfl, fun _ => rfl, fun _ => rfl, fun _ => h1.2.2.2.2, fun _ => rfl, trivial⟩) rfl za (.inl rfl) ?_
  refine (h8) ?_
  exact ⟨_, _, _, _, _, _, (([] ++ nw1_1) ++ oz3_2.toList), rfl, yb 2, yt, yt, ⟨_, _, rfl, z1Y ⟨uP, a0, a1, uT, uK, xs, rfl, sP, sT, sL, sK, h1⟩ (fun x hx => List.mem_append_left _ hx), ho3_2.shows.mono (fun x hx => List.mem_append_right _ hx)⟩, (by repeat (first | exact zu | exact zw _ | apply zm rfl))⟩
set_option maxRecDepth 20000 in
theorem zaO (b : LN) (l : Bool) (vp v0 v1 vt : Value) (fi : Bool) (tq : Nat) (dd : Bool) (y : SY) (r : RS) (ow : NN) (vk : Value) (us : Nat) (ps : List (NN)) (qs p0 p1 : List Int) (tvs : List Value) (ts : List (List Int)) (hk : Shows G 32 vk ps.length (psC ps)) (hvp : Shows G 1 vp qs.length (qs.map iv)) (hvt : Shows G 1 vt tvs.length tvs) (hLI : zn G (v0 :: v1 :: tvs) (p0 :: p1 :: ts)) (zk : ps.length * 32 ≤ 140737488355328) (zp : qs.length * 8 ≤ 140737488355328) (zt : tvs.length * 24 ≤ 140737488355328) (zl : ∀ q ∈ p0 :: p1 :: ts, q.length * 8 ≤ 140737488355328) (hO : DOR ∈ G) (hp : okP ps) (hy : okY y) (hr : okR r) (ho : B32 ow) (sc : NN) (hs : B32 sc) (vx : Value) (tx : LN) (hvt9 : Sh G vx tx) (htb : By tx) (q : LN) (hqe : ts.getD tq [] = ci q) (hq7 : ∀ x ∈ q, 1 ≤ x ∧ x ≤ 7) (hq6 : q.length ≤ 6) (htl : tq < ts.length) (htz : tq < 1000000) (hm : YO dd ((tq : Nat) : Int) ts.length ((us : Nat) : Int) fi l (zM l p0 p1 ts) = true) (hlt : tx.length ≤ 400) (w : Nat × SS × LN) (hw : wR fi ow ps sc q (y, r, us) tx = w) (h0 : w.1 ≠ 0) : Fq G [] 9 #[.agg (shC b l vp v0 v1 vt fi ((tq : Nat) : Int) dd y ow r vk ((us : Nat) : Int)), .agg (arr .u8 32 sc), vx] (fun v l1 nw => l1 = [] ∧ zfw b l qs p0 p1 ts ps fi ((tq : Nat) : Int) true y ow r ((us : Nat) : Int) w.1 [] v nw) := by
 have hwl : w.2.2.length ≤ 1000 := by rw [← hw]; have := WW (fi := fi) (ow := ow) (ps := ps) (sc := sc) q (y, r, us) tx; omega
 have _u1 := htz
 refine zhY (n := 40) Tryz.func9 rfl rfl (by simp) (wm [.agg (shC b l vp v0 v1 vt fi ((tq : Nat) : Int) dd y ow r vk ((us : Nat) : Int)), .agg (arr .u8 32 sc), vx] 0) (yR _) ?_
 refine (g4)<|(Qh 0) fun r1=>(Qh 1) fun r2=>(QH 2) fun r3=>(g8)<|Qs<|QR ⟨[], 4, [], none, none⟩<|(QD 0) ?_
 refine xg [(0, _), (1, _), (2, _)] (by repeat (first | exact zu | exact zw _ | apply zm rfl)) ⟨rfl, rfl, rfl, trivial⟩ rfl rfl rfl (Un 27) ze (Yo b l vp v0 v1 vt fi ((tq : Nat) : Int) dd y r ow vk ((us : Nat) : Int) ps qs p0 p1 tvs ts hk hvp hvt hLI zk zp zt zl) (Zw b l qs p0 p1 ts ps fi ((tq : Nat) : Int) dd y ow r ((us : Nat) : Int)) rfl rfl fun v1_1 nw1_1 hD1_1 => ?_
 simp only [zx]
 obtain ⟨uP, a0, a1, uT, uK, xs, rfl, sP, sT, sL, sK, h1⟩ := hD1_1
 have hxl : xs.length = ts.length := (zr (zr sL)).1
 refine z5 (i := 0) (Uz 37) rfl rfl (z3 _ _) (z7 ⟨fun _ => rfl, fun _ => rfl, fun _ => h1.1, fun _ => h1.2.1, fun _ => h1.2.2.1, fun _ => h1.2.2.2.1, fun _ => rfl, fun _ => rfl, fun _ => rfl, fun _ => rfl, fun _ => rfl, fun _ => rfl, fun _ => rfl, fun _ => rfl, fun _ => rfl, fun _ => rfl, fun _ => rfl, fun _ => rfl, fun _ => rfl, fun _ => rfl, fun _ => rfl, fun _ => h1.2.2.2.2, fun _ => rfl, trivial⟩) rfl za (.inl rfl) ?_
 refine Qn<|Qs<|(gd)<|(Qf 6)<|(QV 6 0) ?_
 refine zg rfl rfl (Un 28) (yr (by repeat (first | exact zu | exact zw _ | apply zm rfl)) rfl) (ZC b l uP a0 a1 uT fi ((tq : Nat) : Int) dd y r ow uK ((us : Nat) : Int) fi p0 p1 xs ts sT sL) rfl rfl ?_
 refine z6 (show _ = Value.bool true by rw [hxl, hm]) ?_
 refine (Q0)<|(go)<|(ge)<|(QC hvt9)<|(QG)<|Qn ?_
 refine zi rfl ?_ ?_
 ·intro hc1
  exact absurd (of_decide_eq_true hc1) (by omega)
 ·intro hc1
  refine Qk<|Qs<|QR ⟨[], 4, [], none, none⟩<|(QD 0)<|(Qd 1)<|(Qm) ?_
  refine zG 3 (fun v => .tuple #[.agg (shC b l uP a0 a1 uT fi ((tq : Nat) : Int) dd w.2.1.1 ow w.2.1.2.1 uK ((w.2.1.2.2 : Nat) : Int)), v, ii w.1]) rfl rfl (Un 29) (zf ze (yr (by repeat (first | exact zu | exact zw _ | apply zm rfl)) rfl)) (z19 (G := G ++ nw1_1) (List.mem_append_left _ hO) b l uP a0 a1 uT fi tq dd y r ow uK us ps (sK.mono (fun x hx => List.mem_append_right _ hx)) hp h1 hy hr ho sc hs q xs (sT.mono (fun x hx => List.mem_append_right _ hx)) (by omega) ((z3R (zr (zr sL)) htl hqe).mono (fun x hx => List.mem_append_right _ hx)) hq7 hq6 vx tx (hvt9.mono (fun x hx => List.mem_append_left _ hx)) htb (by omega) w hw) (by simp only [maxLen]; omega) (by rw [List.length_map, Nat.mul_one]) rfl rfl fun v3_2 oz3_2 ho3_2 => ?_
  refine (jn)<|(QH 4) fun r5=>?_
  refine z5 (i := 4) (Uz 37) rfl rfl (z3 _ _) (z7 ⟨fun _ => rfl, fun _ => rfl, fun _ => h1.1, fun _ => h1.2.1, fun _ => h1.2.2.1, fun _ => h1.2.2.2.1, fun _ => rfl, fun _ => rfl, fun _ => rfl, fun _ => rfl, fun _ => rfl, fun _ => rfl, fun _ => rfl, fun _ => rfl, fun _ => rfl, fun _ => rfl, fun _ => rfl, fun _ => rfl, fun _ => rfl, fun _ => rfl, fun _ => rfl, fun _ => h1.2.2.2.2, fun _ => rfl, trivial⟩) rfl za (.inl rfl) ?_
  refine (g8)<|(gd)<|(QD 4)<|(gb) ?_
  refine (Ca (zdW b l uP a0 a1 uT fi ((tq : Nat) : Int) dd y r ow uK ((us : Nat) : Int) w.2.1.1 w.2.1.2.1 ((w.2.1.2.2 : Nat) : Int) _ w.1 h1 h0))<|(ga)<|(Qx) ?_
  refine z5 (i := 2) (Uz 37) rfl rfl (z3 _ _) (z7 ⟨fun _ => rfl, fun _ => rfl, fun _ => h1.1, fun _ => h1.2.1, fun _ => h1.2.2.1, fun _ => h1.2.2.2.1, fun _ => rfl, fun _ => rfl, fun _ => rfl, fun _ => rfl, fun _ => rfl, fun _ => rfl, fun _ => rfl, fun _ => rfl, fun _ => rfl, fun _ => rfl, fun _ => rfl, fun _ => rfl, fun _ => rfl, fun _ => rfl, fun _ => rfl, fun _ => h1.2.2.2.2, fun _ => rfl, trivial⟩) rfl za (.inl rfl) ?_
  refine (h8) ?_
  exact ⟨_, _, _, _, _, _, ([] ++ nw1_1), rfl, yb 2, yt, yt, ⟨_, yg, rfl, ⟨uP, a0, a1, uT, uK, xs, rfl, sP, sT, sL, sK, h1⟩, yI _ 1⟩, (by repeat (first | exact zu | exact zw _ | apply zm rfl))⟩
theorem wv (v v2 : Value) (l l2 : LN) (hv : Sh G v l) (hv2 : Sh G v2 l2) (hb : By l) (hb2 : By l2) : Fp G 11 #[v, v2] (.bool (decide (l = l2))) := by
 refine Qf1 Tryz.func11 ?_
 refine (gc)<|(g6) ?_
 refine zE hv ze (Uu 22) (Uu 5) (Uu 9) rfl rfl rfl ?_
 refine (Qm) ?_
 refine zE hv2 ze (Uu 22) (Uu 5) (Uu 9) rfl rfl rfl ?_
 refine z9a rfl rfl rfl hb hb2 ?_
 refine (gt) ?_
 exact ⟨_, rfl, yt⟩
end Go.Proofs.YtlidhfijmcelpaaGreatDoor
