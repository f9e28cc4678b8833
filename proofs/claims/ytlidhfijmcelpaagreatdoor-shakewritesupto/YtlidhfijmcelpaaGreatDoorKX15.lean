import Derived.Test.YtlidhfijmcelpaaGreatDoorKX14
import Derived.Test.YtlidhfijmcelpaaGreatDoorRows
set_option maxHeartbeats 8000000
set_option maxRecDepth 30000
attribute [local simp] Go.Proofs.YtlidhfijmcelpaaGreatDoor.By Go.Proofs.YtlidhfijmcelpaaGreatDoor.L8
namespace Go.Proofs.YtlidhfijmcelpaaGreatDoor
open Go Go.RowKit
variable {G : Mem}
set_option maxRecDepth 20000 in
theorem z0g (b : LN) (l : Bool) (vp v0 v1 vt : Value) (fi : Bool) (tn : Int) (dd : Bool) (y : SY) (r : RS) (ow : NN) (vk : Value) (us : Int) (ps : List (NN)) (qs p0 p1 : List Int) (tvs : List Value) (ts : List (List Int)) (hk : Shows G 32 vk ps.length (psC ps)) (hvp : Shows G 1 vp qs.length (qs.map iv)) (hvt : Shows G 1 vt tvs.length tvs) (hLI : zn G (v0 :: v1 :: tvs) (p0 :: p1 :: ts)) (zk : ps.length * 32 ≤ 140737488355328) (zp : qs.length * 8 ≤ 140737488355328) (zt : tvs.length * 24 ≤ 140737488355328) (zl : ∀ q ∈ p0 :: p1 :: ts, q.length * 8 ≤ 140737488355328) (sc : NN) (vx : Value) (h1 : xU vp v0 v1 vt vk) (hb8 : By b) (hz : ts.length ≤ 9223372036854775807 ∧ ∀ l ∈ qs :: p0 :: p1 :: ts, l.length ≤ 9223372036854775807) (hm : YO dd tn ts.length us fi l (zM l p0 p1 ts) = false) (hbad : ((((dd || decide (tn < 0)) || decide ((tvs.length : Int) ≤ tn)) || decide (us < 0)) || decide (((zM l p0 p1 ts : Nat) : Int) ≠ 0)) = true) : Fp G 4 #[.agg (shC b l vp v0 v1 vt fi tn dd y ow r vk us), .agg (arr .u8 32 sc), vx] (.bool true) := by
 refine Qf1 Tryz.func4 ?_
 refine (g4)<|(Qh 0) fun r1=>(Qh 1) fun r2=>(g3)<|Qs<|QR ⟨[], 4, [], none, none⟩<|(QD 0)<|(Qd 1)<|(Qm) ?_
 refine xg [(0, _), (1, _)] (by repeat (first | exact zu | exact zw _ | apply zm rfl)) ⟨rfl, rfl, trivial⟩ rfl rfl rfl (Un 9) ze (z5t b l vp v0 v1 vt fi tn dd y r ow vk us ps qs p0 p1 tvs ts hk hvp hvt hLI zk zp zt zl sc vx hm) (Xx b l qs p0 p1 ts ps fi tn dd y ow r us 9 []) rfl rfl fun v1_1 nw1_1 hD1_1 => ?_
 simp only [zx]
 obtain ⟨_, W1, rfl, ⟨P1, A1, B1, T1, K1, l1, rfl, hP1, hT1, hL1, hK1, h11⟩, hW1⟩ := hD1_1
 refine (jn)<|(QH 2) fun r3=>?_
 refine z5 (i := 2) (Uz 37) rfl rfl (z3 _ _) (z7 ⟨fun _ => rfl, fun _ => rfl, fun _ => h11.1, fun _ => h11.2.1, fun _ => h11.2.2.1, fun _ => h11.2.2.2.1, fun _ => rfl, fun _ => rfl, fun _ => rfl, fun _ => rfl, fun _ => rfl, fun _ => rfl, fun _ => rfl, fun _ => rfl, fun _ => rfl, fun _ => rfl, fun _ => rfl, fun _ => rfl, fun _ => rfl, fun _ => rfl, fun _ => rfl, fun _ => h11.2.2.2.2, fun _ => rfl, trivial⟩) rfl za (.inl rfl) ?_
 refine (g8)<|(gd)<|(Qd 1)<|(Qm) ?_
 refine (Ca (z4b b l vp v0 v1 vt fi tn dd y r ow vk us p0 p1 tvs ts hvt hLI sc vx h1 hbad))<|(jn)<|(QH 3) fun r4=>?_
 refine z5 (i := 3) (Uz 37) rfl rfl (z3 _ _) (z7 ⟨fun _ => rfl, fun _ => rfl, fun _ => h1.1, fun _ => h1.2.1, fun _ => h1.2.2.1, fun _ => h1.2.2.2.1, fun _ => rfl, fun _ => rfl, fun _ => rfl, fun _ => rfl, fun _ => rfl, fun _ => rfl, fun _ => rfl, fun _ => rfl, fun _ => rfl, fun _ => rfl, fun _ => rfl, fun _ => rfl, fun _ => rfl, fun _ => rfl, fun _ => rfl, fun _ => h1.2.2.2.2, fun _ => rfl, trivial⟩) rfl za (.inl rfl) ?_
 refine (g8)<|(g4)<|(QD 2)<|(QD 3) ?_
 refine zg rfl rfl (Un 8) (zf ze (yr (by repeat (first | exact zu | exact zw _ | apply zm rfl)) rfl)) (xC (G := G ++ ([] ++ nw1_1)) b l P1 A1 B1 T1 fi vp v0 v1 vt tn dd y r ow K1 vk us l1 tvs qs p0 p1 ts ps hb8 (hT1.mono (fun x hx => List.mem_append_right _ (List.mem_append_right _ hx))) (yF (Zf hP1 hL1) (fun x hx => List.mem_append_right _ (List.mem_append_right _ hx))) (hK1.mono (fun x hx => List.mem_append_right _ (List.mem_append_right _ hx))) (hvt.mono (fun x hx => List.mem_append_left _ hx)) (yF (Zf hvp hLI) (fun x hx => List.mem_append_left _ hx)) (hk.mono (fun x hx => List.mem_append_left _ hx)) (by omega) hz) rfl rfl ?_
 refine (gn)<|(g7) ?_
 refine zg rfl rfl (Un 11) (zf ze (yr (by repeat (first | exact zu | exact zw _ | apply zm rfl)) rfl)) (wv (G := G ++ ([] ++ nw1_1)) W1 yg [] [] (hW1.mono (fun x hx => List.mem_append_right _ (List.mem_append_right _ hx))) (yI _ 1) (by simp) (by simp)) rfl rfl ?_
 refine z6 (show _ = Value.bool true from congrArg Value.bool (decide_eq_true rfl)) ?_
 refine (QT)<|(gn)<|(g7)<|(Qc) ?_
 refine z6 (show _ = Value.bool true from congrArg Value.bool (by first | exact decide_eq_true rfl | exact beq_self_eq_true _ | exact zT | simp)) ?_
 refine (QT)<|(gt) ?_
 exact ⟨_, rfl, yt⟩
set_option maxRecDepth 20000 in
theorem W5 (b : LN) (l : Bool) (vp v0 v1 vt : Value) (fi : Bool) (tq : Nat) (dd : Bool) (y : SY) (r : RS) (ow : NN) (vk : Value) (us : Int) (ps : List (NN)) (qs p0 p1 : List Int) (tvs : List Value) (ts : List (List Int)) (hk : Shows G 32 vk ps.length (psC ps)) (hvp : Shows G 1 vp qs.length (qs.map iv)) (hvt : Shows G 1 vt tvs.length tvs) (hLI : zn G (v0 :: v1 :: tvs) (p0 :: p1 :: ts)) (zk : ps.length * 32 ≤ 140737488355328) (zp : qs.length * 8 ≤ 140737488355328) (zt : tvs.length * 24 ≤ 140737488355328) (zl : ∀ q ∈ p0 :: p1 :: ts, q.length * 8 ≤ 140737488355328) (sc : NN) (vx : Value) (h1 : xU vp v0 v1 vt vk) (hb8 : By b) (hz : ts.length ≤ 9223372036854775807 ∧ ∀ l ∈ qs :: p0 :: p1 :: ts, l.length ≤ 9223372036854775807) (hm : YO dd ((tq : Nat) : Int) ts.length us fi l (zM l p0 p1 ts) = false) (hbad : ((((dd || decide (((tq : Nat) : Int) < 0)) || decide ((tvs.length : Int) ≤ ((tq : Nat) : Int))) || decide (us < 0)) || decide (((zM l p0 p1 ts : Nat) : Int) ≠ 0)) = false) (hmine : ((decide (((tq % 2 : Nat) : Int) = 0) != l) == fi) = false) : Fp G 4 #[.agg (shC b l vp v0 v1 vt fi ((tq : Nat) : Int) dd y ow r vk us), .agg (arr .u8 32 sc), vx] (.bool true) := by
 refine Qf1 Tryz.func4 ?_
 refine (g4)<|(Qh 0) fun r1=>(Qh 1) fun r2=>(g3)<|Qs<|QR ⟨[], 4, [], none, none⟩<|(QD 0)<|(Qd 1)<|(Qm) ?_
 refine xg [(0, _), (1, _)] (by repeat (first | exact zu | exact zw _ | apply zm rfl)) ⟨rfl, rfl, trivial⟩ rfl rfl rfl (Un 9) ze (z5t b l vp v0 v1 vt fi ((tq : Nat) : Int) dd y r ow vk us ps qs p0 p1 tvs ts hk hvp hvt hLI zk zp zt zl sc vx hm) (Xx b l qs p0 p1 ts ps fi ((tq : Nat) : Int) dd y ow r us 9 []) rfl rfl fun v1_1 nw1_1 hD1_1 => ?_
 simp only [zx]
 obtain ⟨_, W1, rfl, ⟨P1, A1, B1, T1, K1, l1, rfl, hP1, hT1, hL1, hK1, h11⟩, hW1⟩ := hD1_1
 refine (jn)<|(QH 2) fun r3=>?_
 refine z5 (i := 2) (Uz 37) rfl rfl (z3 _ _) (z7 ⟨fun _ => rfl, fun _ => rfl, fun _ => h11.1, fun _ => h11.2.1, fun _ => h11.2.2.1, fun _ => h11.2.2.2.1, fun _ => rfl, fun _ => rfl, fun _ => rfl, fun _ => rfl, fun _ => rfl, fun _ => rfl, fun _ => rfl, fun _ => rfl, fun _ => rfl, fun _ => rfl, fun _ => rfl, fun _ => rfl, fun _ => rfl, fun _ => rfl, fun _ => rfl, fun _ => h11.2.2.2.2, fun _ => rfl, trivial⟩) rfl za (.inl rfl) ?_
 refine (g8)<|(gd)<|(Qd 1)<|(Qm) ?_
 refine (Ca (z0F b l vp v0 v1 vt fi tq dd y r ow vk us p0 p1 tvs ts hvt hLI sc vx h1 hbad hmine))<|(jn)<|(QH 3) fun r4=>?_
 refine z5 (i := 3) (Uz 37) rfl rfl (z3 _ _) (z7 ⟨fun _ => rfl, fun _ => rfl, fun _ => h1.1, fun _ => h1.2.1, fun _ => h1.2.2.1, fun _ => h1.2.2.2.1, fun _ => rfl, fun _ => rfl, fun _ => rfl, fun _ => rfl, fun _ => rfl, fun _ => rfl, fun _ => rfl, fun _ => rfl, fun _ => rfl, fun _ => rfl, fun _ => rfl, fun _ => rfl, fun _ => rfl, fun _ => rfl, fun _ => rfl, fun _ => h1.2.2.2.2, fun _ => rfl, trivial⟩) rfl za (.inl rfl) ?_
 refine (g8)<|(g4)<|(QD 2)<|(QD 3) ?_
 refine zg rfl rfl (Un 8) (zf ze (yr (by repeat (first | exact zu | exact zw _ | apply zm rfl)) rfl)) (xC (G := G ++ ([] ++ nw1_1)) b l P1 A1 B1 T1 fi vp v0 v1 vt ((tq : Nat) : Int) dd y r ow K1 vk us l1 tvs qs p0 p1 ts ps hb8 (hT1.mono (fun x hx => List.mem_append_right _ (List.mem_append_right _ hx))) (yF (Zf hP1 hL1) (fun x hx => List.mem_append_right _ (List.mem_append_right _ hx))) (hK1.mono (fun x hx => List.mem_append_right _ (List.mem_append_right _ hx))) (hvt.mono (fun x hx => List.mem_append_left _ hx)) (yF (Zf hvp hLI) (fun x hx => List.mem_append_left _ hx)) (hk.mono (fun x hx => List.mem_append_left _ hx)) (by omega) hz) rfl rfl ?_
 refine (gn)<|(g7) ?_
 refine zg rfl rfl (Un 11) (zf ze (yr (by repeat (first | exact zu | exact zw _ | apply zm rfl)) rfl)) (wv (G := G ++ ([] ++ nw1_1)) W1 yg [] [] (hW1.mono (fun x hx => List.mem_append_right _ (List.mem_append_right _ hx))) (yI _ 1) (by simp) (by simp)) rfl rfl ?_
 refine z6 (show _ = Value.bool true from congrArg Value.bool (decide_eq_true rfl)) ?_
 refine (QT)<|(gn)<|(g7)<|(Qc) ?_
 refine z6 (show _ = Value.bool true from congrArg Value.bool (by first | exact decide_eq_true rfl | exact beq_self_eq_true _ | exact zT | simp)) ?_
 refine (QT)<|(gt) ?_
 exact ⟨_, rfl, yt⟩
set_option maxRecDepth 20000 in
theorem WR (b : LN) (l : Bool) (vp v0 v1 vt : Value) (fi : Bool) (tq : Nat) (dd : Bool) (y : SY) (r : RS) (ow : NN) (vk : Value) (us : Int) (ps : List (NN)) (qs p0 p1 : List Int) (tvs : List Value) (ts : List (List Int)) (hk : Shows G 32 vk ps.length (psC ps)) (hvp : Shows G 1 vp qs.length (qs.map iv)) (hvt : Shows G 1 vt tvs.length tvs) (hLI : zn G (v0 :: v1 :: tvs) (p0 :: p1 :: ts)) (zk : ps.length * 32 ≤ 140737488355328) (zp : qs.length * 8 ≤ 140737488355328) (zt : tvs.length * 24 ≤ 140737488355328) (zl : ∀ q ∈ p0 :: p1 :: ts, q.length * 8 ≤ 140737488355328) (sc : NN) (vx : Value) (tx : LN) (hvt9 : Sh G vx tx) (htb : By tx) (h1 : xU vp v0 v1 vt vk) (hb8 : By b) (hz : ts.length ≤ 9223372036854775807 ∧ ∀ l ∈ qs :: p0 :: p1 :: ts, l.length ≤ 9223372036854775807) (hm : YO dd ((tq : Nat) : Int) ts.length us fi l (zM l p0 p1 ts) = true) (hbad : ((((dd || decide (((tq : Nat) : Int) < 0)) || decide ((tvs.length : Int) ≤ ((tq : Nat) : Int))) || decide (us < 0)) || decide (((zM l p0 p1 ts : Nat) : Int) ≠ 0)) = false) (hmine : ((decide (((tq % 2 : Nat) : Int) = 0) != l) == fi) = true) (hs : 400 < tx.length) : Fp G 4 #[.agg (shC b l vp v0 v1 vt fi ((tq : Nat) : Int) dd y ow r vk us), .agg (arr .u8 32 sc), vx] (.bool true) := by
 refine Qf1 Tryz.func4 ?_
 refine (g4)<|(Qh 0) fun r1=>(Qh 1) fun r2=>(g3)<|Qs<|QR ⟨[], 4, [], none, none⟩<|(QD 0)<|(Qd 1)<|(Qm) ?_
 refine xg [(0, _), (1, _)] (by repeat (first | exact zu | exact zw _ | apply zm rfl)) ⟨rfl, rfl, trivial⟩ rfl rfl rfl (Un 9) ze (z6F b l vp v0 v1 vt fi ((tq : Nat) : Int) dd y r ow vk us ps qs p0 p1 tvs ts hk hvp hvt hLI zk zp zt zl sc vx tx hvt9 htb hm hs) (Xx b l qs p0 p1 ts ps fi ((tq : Nat) : Int) dd y ow r us 1 []) rfl rfl fun v1_1 nw1_1 hD1_1 => ?_
 simp only [zx]
 obtain ⟨_, W1, rfl, ⟨P1, A1, B1, T1, K1, l1, rfl, hP1, hT1, hL1, hK1, h11⟩, hW1⟩ := hD1_1
 refine (jn)<|(QH 2) fun r3=>?_
 refine z5 (i := 2) (Uz 37) rfl rfl (z3 _ _) (z7 ⟨fun _ => rfl, fun _ => rfl, fun _ => h11.1, fun _ => h11.2.1, fun _ => h11.2.2.1, fun _ => h11.2.2.2.1, fun _ => rfl, fun _ => rfl, fun _ => rfl, fun _ => rfl, fun _ => rfl, fun _ => rfl, fun _ => rfl, fun _ => rfl, fun _ => rfl, fun _ => rfl, fun _ => rfl, fun _ => rfl, fun _ => rfl, fun _ => rfl, fun _ => rfl, fun _ => h11.2.2.2.2, fun _ => rfl, trivial⟩) rfl za (.inl rfl) ?_
 refine (g8)<|(gd)<|(Qd 1)<|(Qm) ?_
 refine (Ca (z1r b l vp v0 v1 vt fi tq dd y r ow vk us p0 p1 tvs ts hvt hLI sc vx tx hvt9 htb h1 hbad hmine hs))<|(jn)<|(QH 3) fun r4=>?_
 refine z5 (i := 3) (Uz 37) rfl rfl (z3 _ _) (z7 ⟨fun _ => rfl, fun _ => rfl, fun _ => h1.1, fun _ => h1.2.1, fun _ => h1.2.2.1, fun _ => h1.2.2.2.1, fun _ => rfl, fun _ => rfl, fun _ => rfl, fun _ => rfl, fun _ => rfl, fun _ => rfl, fun _ => rfl, fun _ => rfl, fun _ => rfl, fun _ => rfl, fun _ => rfl, fun _ => rfl, fun _ => rfl, fun _ => rfl, fun _ => rfl, fun _ => h1.2.2.2.2, fun _ => rfl, trivial⟩) rfl za (.inl rfl) ?_
 refine (g8)<|(g4)<|(QD 2)<|(QD 3) ?_
 refine zg rfl rfl (Un 8) (zf ze (yr (by repeat (first | exact zu | exact zw _ | apply zm rfl)) rfl)) (xC (G := G ++ ([] ++ nw1_1)) b l P1 A1 B1 T1 fi vp v0 v1 vt ((tq : Nat) : Int) dd y r ow K1 vk us l1 tvs qs p0 p1 ts ps hb8 (hT1.mono (fun x hx => List.mem_append_right _ (List.mem_append_right _ hx))) (yF (Zf hP1 hL1) (fun x hx => List.mem_append_right _ (List.mem_append_right _ hx))) (hK1.mono (fun x hx => List.mem_append_right _ (List.mem_append_right _ hx))) (hvt.mono (fun x hx => List.mem_append_left _ hx)) (yF (Zf hvp hLI) (fun x hx => List.mem_append_left _ hx)) (hk.mono (fun x hx => List.mem_append_left _ hx)) (by omega) hz) rfl rfl ?_
 refine (gn)<|(g7) ?_
 refine zg rfl rfl (Un 11) (zf ze (yr (by repeat (first | exact zu | exact zw _ | apply zm rfl)) rfl)) (wv (G := G ++ ([] ++ nw1_1)) W1 yg [] [] (hW1.mono (fun x hx => List.mem_append_right _ (List.mem_append_right _ hx))) (yI _ 1) (by simp) (by simp)) rfl rfl ?_
 refine z6 (show _ = Value.bool true from congrArg Value.bool (decide_eq_true rfl)) ?_
 refine (QT)<|(gn)<|(g7)<|(Qc) ?_
 refine z6 (show _ = Value.bool true from congrArg Value.bool (by first | exact decide_eq_true rfl | exact beq_self_eq_true _ | exact zT | simp)) ?_
 refine (QT)<|(gt) ?_
 exact ⟨_, rfl, yt⟩
set_option maxRecDepth 20000 in
theorem VZ (hI : IVB ∈ G) (hP : (⟨2, arr .u64 16 (d16 PP), 120⟩ : Blk) ∈ G) (b : LN) (l : Bool) (vp v0 v1 vt : Value) (fi : Bool) (tq : Nat) (dd : Bool) (y : SY) (r : RS) (ow : NN) (vk : Value) (us : Nat) (ps : List (NN)) (qs p0 p1 : List Int) (tvs : List Value) (ts : List (List Int)) (hk : Shows G 32 vk ps.length (psC ps)) (hvp : Shows G 1 vp qs.length (qs.map iv)) (hvt : Shows G 1 vt tvs.length tvs) (hLI : zn G (v0 :: v1 :: tvs) (p0 :: p1 :: ts)) (zk : ps.length * 32 ≤ 140737488355328) (zp : qs.length * 8 ≤ 140737488355328) (zt : tvs.length * 24 ≤ 140737488355328) (zl : ∀ q ∈ p0 :: p1 :: ts, q.length * 8 ≤ 140737488355328) (hO : DOR ∈ G) (hp : okP ps) (hy : okY y) (hr : okR r) (ho : B32 ow) (sc : NN) (hs : B32 sc) (vx : Value) (tx : LN) (hvt9 : Sh G vx tx) (htb : By tx) (h1 : xU vp v0 v1 vt vk) (hb8 : By b) (hz : ts.length ≤ 9223372036854775807 ∧ ∀ l ∈ qs :: p0 :: p1 :: ts, l.length ≤ 9223372036854775807) (q : LN) (hqe : ts.getD tq [] = ci q) (hq7 : ∀ x ∈ q, 1 ≤ x ∧ x ≤ 7) (hq6 : q.length ≤ 6) (htl : tq < ts.length) (htz : tq < 1000000) (hm : YO dd ((tq : Nat) : Int) ts.length ((us : Nat) : Int) fi l (zM l p0 p1 ts) = true) (hbad : ((((dd || decide (((tq : Nat) : Int) < 0)) || decide ((tvs.length : Int) ≤ ((tq : Nat) : Int))) || decide (((us : Nat) : Int) < 0)) || decide (((zM l p0 p1 ts : Nat) : Int) ≠ 0)) = false) (hmine : ((decide (((tq % 2 : Nat) : Int) = 0) != l) == fi) = true) (hlt : tx.length ≤ 400) (w : Nat × SS × LN) (hw : wR fi ow ps sc q (y, r, us) tx = w) (h0 : w.1 = 0) : Fp G 4 #[.agg (shC b l vp v0 v1 vt fi ((tq : Nat) : Int) dd y ow r vk ((us : Nat) : Int)), .agg (arr .u8 32 sc), vx] (.bool true) := by
 have hwl : w.2.2.length ≤ 1000 := by rw [← hw]; have := WW (fi := fi) (ow := ow) (ps := ps) (sc := sc) q (y, r, us) tx; omega
 have hob : ∀ x ∈ w.2.2, x < 256 := by rw [← hw]; exact (zba hs q (y, r, us) htb ⟨hy, hr⟩).2
 refine Qf1 Tryz.func4 ?_
 refine (g4)<|(Qh 0) fun r1=>(Qh 1) fun r2=>(g3)<|Qs<|QR ⟨[], 4, [], none, none⟩<|(QD 0)<|(Qd 1)<|(Qm) ?_
 refine xg [(0, _), (1, _)] (by repeat (first | exact zu | exact zw _ | apply zm rfl)) ⟨rfl, rfl, trivial⟩ rfl rfl rfl (Un 9) ze (zcD b l vp v0 v1 vt fi tq dd y r ow vk us ps qs p0 p1 tvs ts hk hvp hvt hLI zk zp zt zl hO hp hy hr ho sc hs vx tx hvt9 htb q hqe hq7 hq6 htl htz hm hlt w hw h0) (Xx b l qs p0 p1 ts ps fi ((tq + 1 : Nat) : Int) dd w.2.1.1 ow w.2.1.2.1 ((w.2.1.2.2 : Nat) : Int) 0 w.2.2) rfl rfl fun v1_1 nw1_1 hD1_1 => ?_
 simp only [zx]
 obtain ⟨_, W1, rfl, ⟨P1, A1, B1, T1, K1, l1, rfl, hP1, hT1, hL1, hK1, h11⟩, hW1⟩ := hD1_1
 refine (jn)<|(QH 2) fun r3=>?_
 refine z5 (i := 2) (Uz 37) rfl rfl (z3 _ _) (z7 ⟨fun _ => rfl, fun _ => rfl, fun _ => h11.1, fun _ => h11.2.1, fun _ => h11.2.2.1, fun _ => h11.2.2.2.1, fun _ => rfl, fun _ => rfl, fun _ => rfl, fun _ => rfl, fun _ => rfl, fun _ => rfl, fun _ => rfl, fun _ => rfl, fun _ => rfl, fun _ => rfl, fun _ => rfl, fun _ => rfl, fun _ => rfl, fun _ => rfl, fun _ => rfl, fun _ => h11.2.2.2.2, fun _ => rfl, trivial⟩) rfl za (.inl rfl) ?_
 refine (g8)<|Qs<|QR ⟨[], 4, [], none, none⟩<|(QD 0)<|(Qd 1)<|(Qm) ?_
 refine zG 3 (fun v => .tuple #[.agg (shC b l vp v0 v1 vt fi ((tq + 1 : Nat) : Int) dd w.2.1.1 ow w.2.1.2.1 vk ((w.2.1.2.2 : Nat) : Int)), v, ii 0]) rfl rfl (Un 10) ze (z66 hI hP b l vp v0 v1 vt fi tq dd y r ow vk us ps hk hp h1 hy hr ho sc hs q tvs hvt (by rw [(zr (zr hLI)).1]; exact htl) (z3R (zr (zr hLI)) htl hqe) hq7 hq6 p0 p1 ts hLI vx tx hvt9 htb hlt hbad hmine htz w hw h0) (by simp only [maxLen]; omega) (by rw [List.length_map, Nat.mul_one]) rfl rfl fun v1_2 oz1_2 ho1_2 => ?_
 refine (jn)<|(QH 4) fun r5=>?_
 refine z5 (i := 4) (Uz 37) rfl rfl (z3 _ _) (z7 ⟨fun _ => rfl, fun _ => rfl, fun _ => h1.1, fun _ => h1.2.1, fun _ => h1.2.2.1, fun _ => h1.2.2.2.1, fun _ => rfl, fun _ => rfl, fun _ => rfl, fun _ => rfl, fun _ => rfl, fun _ => rfl, fun _ => rfl, fun _ => rfl, fun _ => rfl, fun _ => rfl, fun _ => rfl, fun _ => rfl, fun _ => rfl, fun _ => rfl, fun _ => rfl, fun _ => h1.2.2.2.2, fun _ => rfl, trivial⟩) rfl za (.inl rfl) ?_
 refine (g8)<|(g4)<|(QD 2)<|(QD 4) ?_
 refine zg rfl rfl (Un 8) (zf ze (yr (by repeat (first | exact zu | exact zw _ | apply zm rfl)) rfl)) (xC (G := G ++ ([] ++ nw1_1)) b l P1 A1 B1 T1 fi vp v0 v1 vt ((tq + 1 : Nat) : Int) dd w.2.1.1 w.2.1.2.1 ow K1 vk ((w.2.1.2.2 : Nat) : Int) l1 tvs qs p0 p1 ts ps hb8 (hT1.mono (fun x hx => List.mem_append_right _ (List.mem_append_right _ hx))) (yF (Zf hP1 hL1) (fun x hx => List.mem_append_right _ (List.mem_append_right _ hx))) (hK1.mono (fun x hx => List.mem_append_right _ (List.mem_append_right _ hx))) (hvt.mono (fun x hx => List.mem_append_left _ hx)) (yF (Zf hvp hLI) (fun x hx => List.mem_append_left _ hx)) (hk.mono (fun x hx => List.mem_append_left _ hx)) (by omega) hz) rfl rfl ?_
 refine (gn)<|(g7) ?_
 refine zg rfl rfl (Un 11) (zf (zf ze (yr (by repeat (first | exact zu | exact zw _ | apply zm rfl)) rfl)) (zL 3 rfl ⟨[], trivial⟩)) (wv (G := (G ++ ([] ++ nw1_1)) ++ oz1_2.toList) W1 v1_2 w.2.2 w.2.2 (hW1.mono (fun x hx => List.mem_append_left _ (List.mem_append_right _ (List.mem_append_right _ hx)))) ((zY ho1_2).mono (fun x hx => List.mem_append_right _ hx)) hob hob) rfl rfl ?_
 refine z6 (show _ = Value.bool true from congrArg Value.bool (decide_eq_true rfl)) ?_
 refine (QT)<|(gn)<|(g7)<|(Qc) ?_
 refine z6 (show _ = Value.bool true from congrArg Value.bool (by first | exact decide_eq_true rfl | exact beq_self_eq_true _ | exact zT | simp)) ?_
 refine (QT)<|(gt) ?_
 exact ⟨_, rfl, yt⟩
set_option maxRecDepth 20000 in
theorem Vp (hI : IVB ∈ G) (hP : (⟨2, arr .u64 16 (d16 PP), 120⟩ : Blk) ∈ G) (b : LN) (l : Bool) (vp v0 v1 vt : Value) (fi : Bool) (tq : Nat) (dd : Bool) (y : SY) (r : RS) (ow : NN) (vk : Value) (us : Nat) (ps : List (NN)) (qs p0 p1 : List Int) (tvs : List Value) (ts : List (List Int)) (hk : Shows G 32 vk ps.length (psC ps)) (hvp : Shows G 1 vp qs.length (qs.map iv)) (hvt : Shows G 1 vt tvs.length tvs) (hLI : zn G (v0 :: v1 :: tvs) (p0 :: p1 :: ts)) (zk : ps.length * 32 ≤ 140737488355328) (zp : qs.length * 8 ≤ 140737488355328) (zt : tvs.length * 24 ≤ 140737488355328) (zl : ∀ q ∈ p0 :: p1 :: ts, q.length * 8 ≤ 140737488355328) (hO : DOR ∈ G) (hp : okP ps) (hy : okY y) (hr : okR r) (ho : B32 ow) (sc : NN) (hs : B32 sc) (vx : Value) (tx : LN) (hvt9 : Sh G vx tx) (htb : By tx) (h1 : xU vp v0 v1 vt vk) (hb8 : By b) (hz : ts.length ≤ 9223372036854775807 ∧ ∀ l ∈ qs :: p0 :: p1 :: ts, l.length ≤ 9223372036854775807) (q : LN) (hqe : ts.getD tq [] = ci q) (hq7 : ∀ x ∈ q, 1 ≤ x ∧ x ≤ 7) (hq6 : q.length ≤ 6) (htl : tq < ts.length) (htz : tq < 1000000) (hm : YO dd ((tq : Nat) : Int) ts.length ((us : Nat) : Int) fi l (zM l p0 p1 ts) = true) (hbad : ((((dd || decide (((tq : Nat) : Int) < 0)) || decide ((tvs.length : Int) ≤ ((tq : Nat) : Int))) || decide (((us : Nat) : Int) < 0)) || decide (((zM l p0 p1 ts : Nat) : Int) ≠ 0)) = false) (hmine : ((decide (((tq % 2 : Nat) : Int) = 0) != l) == fi) = true) (hlt : tx.length ≤ 400) (w : Nat × SS × LN) (hw : wR fi ow ps sc q (y, r, us) tx = w) (h0 : w.1 ≠ 0) : Fp G 4 #[.agg (shC b l vp v0 v1 vt fi ((tq : Nat) : Int) dd y ow r vk ((us : Nat) : Int)), .agg (arr .u8 32 sc), vx] (.bool true) := by
 refine Qf1 Tryz.func4 ?_
 refine (g4)<|(Qh 0) fun r1=>(Qh 1) fun r2=>(g3)<|Qs<|QR ⟨[], 4, [], none, none⟩<|(QD 0)<|(Qd 1)<|(Qm) ?_
 refine xg [(0, _), (1, _)] (by repeat (first | exact zu | exact zw _ | apply zm rfl)) ⟨rfl, rfl, trivial⟩ rfl rfl rfl (Un 9) ze (zaO b l vp v0 v1 vt fi tq dd y r ow vk us ps qs p0 p1 tvs ts hk hvp hvt hLI zk zp zt zl hO hp hy hr ho sc hs vx tx hvt9 htb q hqe hq7 hq6 htl htz hm hlt w hw h0) (Xx b l qs p0 p1 ts ps fi ((tq : Nat) : Int) true y ow r ((us : Nat) : Int) w.1 []) rfl rfl fun v1_1 nw1_1 hD1_1 => ?_
 simp only [zx]
 obtain ⟨_, W1, rfl, ⟨P1, A1, B1, T1, K1, l1, rfl, hP1, hT1, hL1, hK1, h11⟩, hW1⟩ := hD1_1
 refine (jn)<|(QH 2) fun r3=>?_
 refine z5 (i := 2) (Uz 37) rfl rfl (z3 _ _) (z7 ⟨fun _ => rfl, fun _ => rfl, fun _ => h11.1, fun _ => h11.2.1, fun _ => h11.2.2.1, fun _ => h11.2.2.2.1, fun _ => rfl, fun _ => rfl, fun _ => rfl, fun _ => rfl, fun _ => rfl, fun _ => rfl, fun _ => rfl, fun _ => rfl, fun _ => rfl, fun _ => rfl, fun _ => rfl, fun _ => rfl, fun _ => rfl, fun _ => rfl, fun _ => rfl, fun _ => h11.2.2.2.2, fun _ => rfl, trivial⟩) rfl za (.inl rfl) ?_
 refine (g8)<|(gd)<|(Qd 1)<|(Qm) ?_
 refine (Ca (z3S hI hP b l vp v0 v1 vt fi tq dd y r ow vk us ps hk hp h1 hy hr ho sc hs q tvs hvt (by rw [(zr (zr hLI)).1]; exact htl) (z3R (zr (zr hLI)) htl hqe) hq7 hq6 p0 p1 ts hLI vx tx hvt9 htb hlt hbad hmine htz w hw h0))<|(jn)<|(QH 3) fun r4=>?_
 refine z5 (i := 3) (Uz 37) rfl rfl (z3 _ _) (z7 ⟨fun _ => rfl, fun _ => rfl, fun _ => h1.1, fun _ => h1.2.1, fun _ => h1.2.2.1, fun _ => h1.2.2.2.1, fun _ => rfl, fun _ => rfl, fun _ => rfl, fun _ => rfl, fun _ => rfl, fun _ => rfl, fun _ => rfl, fun _ => rfl, fun _ => rfl, fun _ => rfl, fun _ => rfl, fun _ => rfl, fun _ => rfl, fun _ => rfl, fun _ => rfl, fun _ => h1.2.2.2.2, fun _ => rfl, trivial⟩) rfl za (.inl rfl) ?_
 refine (g8)<|(g4)<|(QD 2)<|(QD 3) ?_
 refine zg rfl rfl (Un 8) (zf ze (yr (by repeat (first | exact zu | exact zw _ | apply zm rfl)) rfl)) (xC (G := G ++ ([] ++ nw1_1)) b l P1 A1 B1 T1 fi vp v0 v1 vt ((tq : Nat) : Int) true y r ow K1 vk ((us : Nat) : Int) l1 tvs qs p0 p1 ts ps hb8 (hT1.mono (fun x hx => List.mem_append_right _ (List.mem_append_right _ hx))) (yF (Zf hP1 hL1) (fun x hx => List.mem_append_right _ (List.mem_append_right _ hx))) (hK1.mono (fun x hx => List.mem_append_right _ (List.mem_append_right _ hx))) (hvt.mono (fun x hx => List.mem_append_left _ hx)) (yF (Zf hvp hLI) (fun x hx => List.mem_append_left _ hx)) (hk.mono (fun x hx => List.mem_append_left _ hx)) (by omega) hz) rfl rfl ?_
 refine (gn)<|(g7) ?_
 refine zg rfl rfl (Un 11) (zf ze (yr (by repeat (first | exact zu | exact zw _ | apply zm rfl)) rfl)) (wv (G := G ++ ([] ++ nw1_1)) W1 yg [] [] (hW1.mono (fun x hx => List.mem_append_right _ (List.mem_append_right _ hx))) (yI _ 1) (by simp) (by simp)) rfl rfl ?_
 refine z6 (show _ = Value.bool true from congrArg Value.bool (decide_eq_true rfl)) ?_
 refine (QT)<|(gn)<|(g7)<|(Qc) ?_
 refine z6 (show _ = Value.bool true from congrArg Value.bool (by first | exact decide_eq_true rfl | exact beq_self_eq_true _ | exact zT | simp)) ?_
 refine (QT)<|(gt) ?_
 exact ⟨_, rfl, yt⟩
end Go.Proofs.YtlidhfijmcelpaaGreatDoor
namespace Go.Proofs.YtlidhfijmcelpaaGreatDoor
open Go.ChangeShapes Go.WideShapes Go.ChangeAt Go.RowKit
theorem wZ {W : World} (h : z9E Tryz.prog W "signet/blake.orders" Rows.laid_signet_blake_orders) : RIn W (⟨5, arr .i64 160 sgf, 256⟩ : Blk) :=
 z2W (by kernel_rfl) (by kernel_rfl) (by decide) h fun cs hc r hr => by
  have h1 := zgV (M := 10) (N := 16) (rs := [[0, 1, 2, 3, 4, 5, 6, 7, 8, 9, 10, 11, 12, 13, 14, 15], [14, 10, 4, 8, 9, 15, 13, 6, 1, 12, 0, 2, 11, 7, 5, 3], [11, 8, 12, 0, 5, 2, 15, 13, 10, 14, 3, 6, 7, 1, 9, 4], [7, 9, 3, 1, 13, 12, 11, 14, 2, 6, 5, 10, 4, 0, 15, 8], [9, 0, 5, 7, 2, 4, 10, 15, 14, 1, 11, 12, 6, 8, 3, 13], [2, 12, 6, 10, 0, 11, 8, 3, 4, 13, 7, 5, 15, 14, 1, 9], [12, 5, 1, 15, 14, 13, 4, 10, 0, 7, 6, 3, 9, 2, 8, 11], [13, 11, 7, 14, 12, 1, 3, 9, 5, 0, 15, 4, 8, 6, 2, 10], [6, 15, 14, 9, 11, 3, 0, 8, 12, 2, 13, 7, 1, 4, 10, 5], [10, 2, 8, 4, 7, 6, 1, 5, 15, 11, 9, 14, 3, 12, 13, 0]]) (show Tryz.prog.underlying 256 = some (.array 10 255) by kernel_rfl) (show Tryz.prog.underlying 255 = some (.array 16 3) by kernel_rfl) (show Tryz.prog.underlying 3 = some (.int .i64) by kernel_rfl) (show Tryz.prog.cellsOf 3 = 1 by kernel_rfl) (show Tryz.prog.cellsOf 255 = 16 by kernel_rfl) hc r hr
  rw [h1]
  have h2 : ((List.range 160).all fun r => (([[0, 1, 2, 3, 4, 5, 6, 7, 8, 9, 10, 11, 12, 13, 14, 15], [14, 10, 4, 8, 9, 15, 13, 6, 1, 12, 0, 2, 11, 7, 5, 3], [11, 8, 12, 0, 5, 2, 15, 13, 10, 14, 3, 6, 7, 1, 9, 4], [7, 9, 3, 1, 13, 12, 11, 14, 2, 6, 5, 10, 4, 0, 15, 8], [9, 0, 5, 7, 2, 4, 10, 15, 14, 1, 11, 12, 6, 8, 3, 13], [2, 12, 6, 10, 0, 11, 8, 3, 4, 13, 7, 5, 15, 14, 1, 9], [12, 5, 1, 15, 14, 13, 4, 10, 0, 7, 6, 3, 9, 2, 8, 11], [13, 11, 7, 14, 12, 1, 3, 9, 5, 0, 15, 4, 8, 6, 2, 10], [6, 15, 14, 9, 11, 3, 0, 8, 12, 2, 13, 7, 1, 4, 10, 5], [10, 2, 8, 4, 7, 6, 1, 5, 15, 11, 9, 14, 3, 12, 13, 0]] : List (List Int)).getD (r / 16) []).getD (r % 16) 0 == (sgf r : Int)) = true := by decide +kernel
  have h3 := (List.all_eq_true.1 h2) r (List.mem_range.2 hr)
  rw [eq_of_beq h3]
theorem v8 {W : World} (h : z9E Tryz.prog W "signet/signetref.iv" Rows.laid_signet_signetref_iv) : RIn W (⟨1, arr .u32 8 ivf, 110⟩ : Blk) :=
 z2W (by kernel_rfl) (by kernel_rfl) (by decide) h fun cs hc r hr => by
  have h1 := z3J (zs := [1779033703, 3144134277, 1013904242, 2773480762, 1359893119, 2600822924, 528734635, 1541459225]) (show Tryz.prog.underlying 110 = some (.array 8 109) by kernel_rfl) (show Tryz.prog.underlying 109 = some (.int .u32) by kernel_rfl) (show Tryz.prog.cellsOf 109 = 1 by kernel_rfl) hc r hr
  rw [h1]
  have h2 : ((List.range 8).all fun r => ([1779033703, 3144134277, 1013904242, 2773480762, 1359893119, 2600822924, 528734635, 1541459225] : List Int).getD r 0 == (ivf r : Int)) = true := by decide +kernel
  have h3 := (List.all_eq_true.1 h2) r (List.mem_range.2 hr)
  rw [eq_of_beq h3]
theorem wz {W : World} (h : z9E Tryz.prog W "signet/signetref.prime" Rows.laid_signet_signetref_prime) : RIn W (⟨2, arr .u64 16 (d16 PP), 120⟩ : Blk) :=
 z2W (by kernel_rfl) (by kernel_rfl) (by decide) h fun cs hc r hr => by
  have h1 := z3J (zs := [65517, 65535, 65535, 65535, 65535, 65535, 65535, 65535, 65535, 65535, 65535, 65535, 65535, 65535, 65535, 32767]) (show Tryz.prog.underlying 120 = some (.array 16 31) by kernel_rfl) (show Tryz.prog.underlying 31 = some (.int .u64) by kernel_rfl) (show Tryz.prog.cellsOf 31 = 1 by kernel_rfl) hc r hr
  rw [h1]
  have h2 : ((List.range 16).all fun r => ([65517, 65535, 65535, 65535, 65535, 65535, 65535, 65535, 65535, 65535, 65535, 65535, 65535, 65535, 65535, 32767] : List Int).getD r 0 == ((d16 PP) r : Int)) = true := by decide +kernel
  have h3 := (List.all_eq_true.1 h2) r (List.mem_range.2 hr)
  rw [eq_of_beq h3]
end Go.Proofs.YtlidhfijmcelpaaGreatDoor
