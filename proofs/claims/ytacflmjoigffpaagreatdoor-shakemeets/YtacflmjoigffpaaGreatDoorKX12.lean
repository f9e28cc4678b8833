import Derived.Test.YtacflmjoigffpaaGreatDoorKX11
set_option maxRecDepth 30000
set_option maxHeartbeats 8000000
attribute [local simp] Go.Proofs.YtacflmjoigffpaaGreatDoor.By Go.Proofs.YtacflmjoigffpaaGreatDoor.L8
namespace Go.Proofs.YtacflmjoigffpaaGreatDoor
open Go Go.RowKit
theorem zfj {G : Mem} (hO : DOR ∈ G) (y : SY) (hy : okY y) (v : Value) (l : LN) (hv : Sh G v l) (hb : By l) (hz : l.length ≤ 1000000) : Fp G 212 #[SVy y, v] (SVy (z4E y l)) := by
 have h := (zbx (G := G) y.1 y.2.1 y.2.2.1 y.2.2.2.1 y.2.2.2.2 v l (hv.mono fun _ h => List.mem_cons_of_mem _ h) hb hy.2.2.1 hy.2.2.2 (by omega)).more (in1 hO)
 unfold z4E
 generalize hx y.2.2.2.2 (ky (kB y.2.2.2.1 l)) = fh at h ⊢
 generalize kC y.2.2.2.1 l = fc at h ⊢
 generalize kA y.2.2.2.1 l = fa at h ⊢
 exact h
variable {G : Mem}
theorem z8K (t : Nat) : Fp G 213 #[ii t] (.tuple #[ii (Vb t), ii (Vt t)]) := by
 refine Qf2 Tryz.func213 ?_
 refine (g4)<|(gv)<|Qn<|Qb<|(g4)<|(Qc)<|(g3) ?_
 refine ze rfl ?_ ?_
 ·intro hc0
  obtain rfl : t = 3 := by have := of_decide_eq_true hc0; omega
  refine (g4)<|(gr) ?_
  first | (rw [show Vb t = 2 by unfold Vb; rw [if_neg hn0, if_neg hn1], show Vt t = 2 by unfold Vt; rw [if_neg hn0, if_neg hn1, if_neg hn2]]) | skip
  exact ⟨_, _, rfl, yt, yt⟩
 ·intro hc0
  have hn0 : ¬ t = 3 := by have := of_decide_eq_false hc0; omega
  refine (g4)<|(Qc)<|(g3) ?_
  refine ze rfl ?_ ?_
  ·intro hc1
   obtain rfl : t = 4 := by have := of_decide_eq_true hc1; omega
   refine (g4)<|(gr) ?_
   first | (rw [show Vb t = 2 by unfold Vb; rw [if_neg hn0, if_neg hn1], show Vt t = 2 by unfold Vt; rw [if_neg hn0, if_neg hn1, if_neg hn2]]) | skip
   exact ⟨_, _, rfl, yt, yt⟩
  ·intro hc1
   have hn1 : ¬ t = 4 := by have := of_decide_eq_false hc1; omega
   refine (g4)<|(Qc)<|(g3) ?_
   refine ze rfl ?_ ?_
   ·intro hc2
    obtain rfl : t = 5 := by have := of_decide_eq_true hc2; omega
    refine (g4)<|(gr) ?_
    first | (rw [show Vb t = 2 by unfold Vb; rw [if_neg hn0, if_neg hn1], show Vt t = 2 by unfold Vt; rw [if_neg hn0, if_neg hn1, if_neg hn2]]) | skip
    exact ⟨_, _, rfl, yt, yt⟩
   ·intro hc2
    have hn2 : ¬ t = 5 := by have := of_decide_eq_false hc2; omega
    refine Qk<|(g4)<|(gr) ?_
    first | (rw [show Vb t = 2 by unfold Vb; rw [if_neg hn0, if_neg hn1], show Vt t = 2 by unfold Vt; rw [if_neg hn0, if_neg hn1, if_neg hn2]]) | skip
    exact ⟨_, _, rfl, yt, yt⟩
theorem VI (b : LN) (l : Bool) (vp v0 v1 vt : Value) (fi : Bool) (tn : Int) (dd : Bool) (y : SY) (r : RS) (ow : NN) (vk : Value) (us : Int) (x : Nat) : Fp G 214 #[.agg (shC b l vp v0 v1 vt fi tn dd y ow r vk us), ii x] (.tuple #[.agg (arr .u8 32 (if x = 1 then r.1 else ow)), .bool (if x = 1 then r.2.1 else true)]) := by
 refine Qf2 Tryz.func214 ?_
 refine (g4)<|(Qh 0) fun r1=>(QH 1) fun r2=>(gx)<|(Qc)<|Qn ?_
 refine ze rfl ?_ ?_
 ·intro hc0
  have hx : x = 1 := by have := of_decide_eq_true hc0; omega
  rw [if_pos hx, if_pos hx]
  refine Qs<|(Qq ⟨[r2], 1, [], none, none⟩)<|(Qf 139) ?_
  refine z9J (i := 0) 15 (Uu 30) rfl (Uz 30) rfl rfl rfl (by decide) rfl ⟨[1], rfl, rfl, trivial⟩ ?_
  refine (Qf 171) ?_
  refine z0Q (i := 0) 16 (Uu 4) rfl rfl rfl rfl (by decide) rfl ⟨[1], rfl, rfl, trivial⟩ ?_
  refine z7 (i := 1) (Uz 30) rfl rfl (zH _ _ _) vS rfl (Yf _ _ _ _ _) (.inr (by simp)) ?_
  refine (gh) ?_
  exact ⟨_, _, rfl, ya 1, yt⟩
 ·intro hc0
  have hx : ¬ x = 1 := by have := of_decide_eq_false hc0; omega
  rw [if_neg hx, if_neg hx]
  refine Qk<|(g4)<|(Qf 107)<|(Qv 14 0)<|(Qt 1)<|(gh) ?_
  exact ⟨_, _, rfl, ya 1, yt⟩
theorem VC (b : LN) (l : Bool) (vp v0 v1 vt : Value) (fi : Bool) (tn : Int) (dd : Bool) (y : SY) (r : RS) (ow : NN) (vk : Value) (us : Int) (x : Nat) : Fp G 215 #[.agg (shC b l vp v0 v1 vt fi tn dd y ow r vk us), ii x] (.tuple #[.agg (arr .u8 32 (if x = 1 then r.2.2.2.2.1 else r.2.2.1)), .bool (if x = 1 then r.2.2.2.2.2 else r.2.2.2.1)]) := by
 refine Qf2 Tryz.func215 ?_
 refine (g4)<|(Qh 0) fun r1=>(QH 1) fun r2=>(gx)<|(Qc)<|Qn ?_
 refine ze rfl ?_ ?_
 ·intro hc0
  have hx : x = 1 := by have := of_decide_eq_true hc0; omega
  rw [if_pos hx, if_pos hx]
  refine Qs<|(Qq ⟨[r2], 1, [], none, none⟩)<|(Qf 205) ?_
  refine z9J (i := 0) 19 (Uu 30) rfl (Uz 30) rfl rfl rfl (by decide) rfl ⟨[1], rfl, rfl, trivial⟩ ?_
  refine (Qf 237) ?_
  refine z0Q (i := 0) 20 (Uu 4) rfl rfl rfl rfl (by decide) rfl ⟨[1], rfl, rfl, trivial⟩ ?_
  refine z7 (i := 1) (Uz 30) rfl rfl (zH _ _ _) vS rfl (Yf _ _ _ _ _) (.inr (by simp)) ?_
  refine (gh) ?_
  exact ⟨_, _, rfl, ya 1, yt⟩
 ·intro hc0
  have hx : ¬ x = 1 := by have := of_decide_eq_false hc0; omega
  rw [if_neg hx, if_neg hx]
  refine Qk<|Qs<|(Qq ⟨[r2], 1, [], none, none⟩)<|(Qf 172) ?_
  refine z9J (i := 0) 17 (Uu 30) rfl (Uz 30) rfl rfl rfl (by decide) rfl ⟨[1], rfl, rfl, trivial⟩ ?_
  refine (Qf 204) ?_
  refine z0Q (i := 0) 18 (Uu 4) rfl rfl rfl rfl (by decide) rfl ⟨[1], rfl, rfl, trivial⟩ ?_
  refine z7 (i := 1) (Uz 30) rfl rfl (zH _ _ _) vS rfl (Yf _ _ _ _ _) (.inr (by simp)) ?_
  refine (gh) ?_
  exact ⟨_, _, rfl, ya 1, yt⟩
theorem zcz (hO : DOR ∈ G) (b : LN) (l : Bool) (vp v0 v1 vt : Value) (fi : Bool) (tn : Int) (dd : Bool) (y : SY) (r : RS) (ow : NN) (vk : Value) (us : Nat) (ps : List (NN)) (hk : Shows G 32 vk ps.length (psC ps)) (hp : okP ps) (h1 : xn vp v0 v1 vt vk) (hy : okY y) (hr : okR r) (ho : B32 ow) (w : Nat × SS) (hw : xe fi ow ps 7 (y, r, us) = w) : Fp G 163 #[.agg (shC b l vp v0 v1 vt fi tn dd y ow r vk ((us : Nat) : Int))] (.tuple #[.agg (shC b l vp v0 v1 vt fi tn dd w.2.1 ow w.2.2.1 vk ((w.2.2.2 : Nat) : Int)), ii w.1]) := by
 have hpl := hp.2
 have _u1 := hr
 have _u2 := ho
 refine Qf2 Tryz.func163 ?_
 refine (g4)<|(Qh 0) fun r1=>(QH 1) fun r2=>(g3)<|(gu)<|(Qf 239)<|(QV 22 0)<|(Qf 238)<|(QV 21 0)<|(QC hk)<|(QE)<|Qn ?_
 refine (Qcd) (fun hc0=>?_) fun hc0=>?_
 ·obtain rfl : w = (5, (y, r, us)) := by rw [← hw]; exact z62 (by omega)
  refine (gf) ?_
  refine z7 (i := 1) (Uz 37) rfl rfl (z3 _ _) (za ⟨fun _ => rfl, fun _ => rfl, fun _ => h1.1, fun _ => h1.2.1, fun _ => h1.2.2.1, fun _ => h1.2.2.2.1, fun _ => rfl, fun _ => rfl, fun _ => rfl, fun _ => rfl, fun _ => rfl, fun _ => rfl, fun _ => rfl, fun _ => rfl, fun _ => rfl, fun _ => rfl, fun _ => rfl, fun _ => rfl, fun _ => rfl, fun _ => rfl, fun _ => rfl, fun _ => h1.2.2.2.2, fun _ => rfl, trivial⟩) rfl z8 (.inl rfl) ?_
  refine (gh) ?_
  exact ⟨_, _, rfl, yb 1, yt⟩
 ·obtain ⟨y2, hy2⟩ : ∃ y2, y2 = z4E y (ky (Yu ps us)) := ⟨_, rfl⟩
  obtain rfl : w = (0, y2, r, us + 1) := by rw [← hw, hy2]; exact zet (by omega)
  refine Qk<|(g4)<|(Qf 238)<|(QV 21 0)<|(Qf 239)<|(QV 22 0) ?_
  refine xf hk (Uu 24) (Uz 30) rfl rfl (by omega) rfl ?_
  refine YN hk zo (Uu 30) rfl (Uz 30) rfl (by decide) (by rw [xH Ze]; omega) (zlC (by omega)) rfl ?_
  refine zi (congrArg Value.agg (z6M _)) ?_
  refine (QH 2) fun r3=>(Qt 2)<|Qn<|(gy)<|(Qf 9)<|(QlK 0 9 5) ?_
  refine (Av (SVy y))<|(Qsa 0 32) ?_
  refine zD rfl rfl (Un 212) (zh zo (zY 2 rfl ⟨[], trivial⟩)) (zfj (G := G ++ [(⟨r3, arr .u8 32 (Yu ps us), 30⟩ : Blk)]) (List.mem_append_left _ hO) y hy _ (ky (Yu ps us)) ((xh _ (Yu ps us) _).mono (fun x h => List.mem_append_right _ h)) (ZE (zdZ hp (by omega))) (by simp)) rfl rfl ?_
  refine zi (congrArg SVy hy2.symm) ?_
  refine (Qf 9)<|(QtK 0 9 5) ?_
  refine xQ (c' := shC b l vp v0 v1 vt fi tn dd y2 ow r vk ((us : Nat) : Int)) rfl ?_
  refine (gg)<|(Qf 239)<|(QV 22 0)<|(Q2 1)<|(Qf 239)<|(QtV 0 22) ?_
  refine xQ (c' := shC b l vp v0 v1 vt fi tn dd y2 ow r vk ((us + 1 : Nat) : Int)) rfl ?_
  refine Qn<|(gf) ?_
  refine z7 (i := 1) (Uz 37) rfl rfl (z3 _ _) (za ⟨fun _ => rfl, fun _ => rfl, fun _ => h1.1, fun _ => h1.2.1, fun _ => h1.2.2.1, fun _ => h1.2.2.2.1, fun _ => rfl, fun _ => rfl, fun _ => rfl, fun _ => rfl, fun _ => rfl, fun _ => rfl, fun _ => rfl, fun _ => rfl, fun _ => rfl, fun _ => rfl, fun _ => rfl, fun _ => rfl, fun _ => rfl, fun _ => rfl, fun _ => rfl, fun _ => h1.2.2.2.2, fun _ => rfl, trivial⟩) rfl z8 (.inl rfl) ?_
  refine (gh) ?_
  exact ⟨_, _, rfl, yb 1, yt⟩
theorem z3E (hO : DOR ∈ G) (b : LN) (l : Bool) (vp v0 v1 vt : Value) (tn : Int) (dd : Bool) (y : SY) (r : RS) (ow : NN) (vk : Value) (us : Nat) (ps : List (NN)) (hk : Shows G 32 vk ps.length (psC ps)) (hp : okP ps) (h1 : xn vp v0 v1 vt vk) (hy : okY y) (hr : okR r) (ho : B32 ow) (t : Nat) (h3 : 3 ≤ t) (h6 : t ≤ 6) (w : Nat × SS) (hw : xe true ow ps t (y, r, us) = w) : Fp G 164 #[.agg (shC b l vp v0 v1 vt true tn dd y ow r vk ((us : Nat) : Int)), ii t] (.tuple #[.agg (shC b l vp v0 v1 vt true tn dd w.2.1 ow w.2.2.1 vk ((w.2.2.2 : Nat) : Int)), ii w.1]) := by
 have _u1 := hk
 have _u2 := hp
 obtain ⟨fs, hfs⟩ : ∃ z, z = Xy true ow r t := ⟨_, rfl⟩
 obtain ⟨fp, hfp⟩ : ∃ z, z = XC true r t := ⟨_, rfl⟩
 obtain ⟨bs, hbs⟩ : ∃ z, z = z2e true r t := ⟨_, rfl⟩
 obtain ⟨bw, hbw⟩ : ∃ z, z = z2i true r t := ⟨_, rfl⟩
 have hls : B32 fs := by rw [hfs]; exact zae ho hr
 have hlp : B32 fp := by rw [hfp]; exact zad hr
 obtain ⟨mk, hmk⟩ : ∃ z, z = Xv fs fp := ⟨_, rfl⟩
 have h7 : t ≠ 7 := by omega
 have hN : (bs && bw) = false → w = (5, (y, r, us)) := fun h => by rw [← hw]; exact z2I h7 (by rw [← hbs, ← hbw]; exact h)
 have hZ : ¬ (bs && bw) = false → mk = 0 → w = (12, (y, r, us)) := fun h hz => by rw [← hw]; exact z3w h7 (by rw [← hbs, ← hbw]; exact h) (by rw [← hfs, ← hfp, ← hmk]; exact hz)
 have hK : ¬ (bs && bw) = false → ¬ mk = 0 → w = (0, Wm y (ky (bt mk)), r, us) := fun h hz => by rw [← hw]; exact (z9L h7 (by rw [← hbs, ← hbw]; exact h) (by rw [← hfs, ← hfp, ← hmk]; exact hz)).trans (by rw [← hfs, ← hfp, ← hmk])
 refine Qf2 Tryz.func164 ?_
 refine (g4)<|(Qh 0) fun r1=>(QH 1) fun r2=>(gj) ?_
 refine (Ca (z8K t))<|(ge)<|(g7)<|(gu)<|(Qf 6)<|(QV 6 0)<|(Q0)<|(gp)<|(gf)<|(Qm) ?_
 refine (Ca (VI b l vp v0 v1 vt true tn dd y r ow vk us (Vb t))) ?_
 refine zi (show _ = Value.tuple #[.agg (arr .u8 32 fs), .bool bs] by rw [hfs, hbs, ← zdV (fi := true) h3 h6, ← zgz (fi := true) h3 h6]; rfl) ?_
 refine (ge)<|(QH 2) fun r3=>(Qt 2)<|(g3)<|(gf)<|(Qm) ?_
 refine (Ca (VC b l vp v0 v1 vt true tn dd y r ow vk us (Vt t))) ?_
 refine zi (show _ = Value.tuple #[.agg (arr .u8 32 fp), .bool bw] by rw [hfp, hbw, ← zdo (fi := true) h3 h6, ← zdP (fi := true) h3 h6]; rfl) ?_
 refine (ge)<|(QH 3) fun r4=>(Qt 3)<|(g3)<|(gu) ?_
 refine zW [(0, _), (1, _), (2, _), (4, _), (5, _), (6, _), (7, _), (8, _), (9, _), (10, _), (11, _), (14, _), (15, _), (16, _), (17, _), (18, _), (19, _), (20, _), (21, _), (24, _), (25, _), (26, _), (27, _), (28, _), (29, _), (30, _), (31, _), (32, _), (33, _), (34, _), (35, _)] [(41, .bool (!(bs && bw)))] [(0, some _), (1, some _), (2, some _), (3, some _)] ⟨rfl, rfl, rfl, rfl, rfl, rfl, rfl, rfl, rfl, rfl, rfl, rfl, rfl, rfl, rfl, rfl, rfl, rfl, rfl, rfl, rfl, rfl, rfl, rfl, rfl, rfl, rfl, rfl, rfl, rfl, rfl, trivial⟩ ⟨rfl, rfl, rfl, rfl, trivial⟩ ?_ ?_
 ·skip
  refine (Qm)<|(Q0)<|(Qm) ?_
  refine zM (b := (!bs)) (fun hb0 => ?_) (fun hb0 => ?_)
  ·skip
   refine (g6)<|(QT)<|Qn ?_
   exact ⟨⟨rfl, rfl, rfl, rfl, rfl, rfl, rfl, rfl, rfl, rfl, rfl, rfl, rfl, rfl, rfl, rfl, rfl, rfl, rfl, rfl, rfl, rfl, rfl, rfl, rfl, rfl, rfl, rfl, rfl, rfl, rfl, trivial⟩, ⟨zf (by rw [Bool.not_and, hb0] <;> rfl), trivial⟩, ⟨rfl, rfl, rfl, rfl, trivial⟩⟩
  ·skip
   refine (Qy)<|(g8)<|(Q0)<|(QF)<|Qn ?_
   exact ⟨⟨rfl, rfl, rfl, rfl, rfl, rfl, rfl, rfl, rfl, rfl, rfl, rfl, rfl, rfl, rfl, rfl, rfl, rfl, rfl, rfl, rfl, rfl, rfl, rfl, rfl, rfl, rfl, rfl, rfl, rfl, rfl, trivial⟩, ⟨zf (by rw [Bool.not_and, hb0] <;> rfl), trivial⟩, ⟨rfl, rfl, rfl, rfl, trivial⟩⟩
 ·simp only [zB]
  refine ze rfl ?_ ?_
  ·intro hc1
   have hn1 : (bs && bw) = false := zkt hc1
   obtain rfl := hN hn1
   refine (gf) ?_
   refine z7 (i := 1) (Uz 37) rfl rfl (z3 _ _) (za ⟨fun _ => rfl, fun _ => rfl, fun _ => h1.1, fun _ => h1.2.1, fun _ => h1.2.2.1, fun _ => h1.2.2.2.1, fun _ => rfl, fun _ => rfl, fun _ => rfl, fun _ => rfl, fun _ => rfl, fun _ => rfl, fun _ => rfl, fun _ => rfl, fun _ => rfl, fun _ => rfl, fun _ => rfl, fun _ => rfl, fun _ => rfl, fun _ => rfl, fun _ => rfl, fun _ => h1.2.2.2.2, fun _ => rfl, trivial⟩) rfl z8 (.inl rfl) ?_
   refine (gh) ?_
   exact ⟨_, _, rfl, yb 1, yt⟩
  ·intro hc1
   have hn1 : ¬ (bs && bw) = false := zkc hc1
   refine Qk<|(g4)<|(Qd 2)<|(Qd 3) ?_
   refine (Ca (z16 fs fp hls hlp)) ?_
   refine zi (show _ = Value.tuple #[Value.agg (arr .u8 32 (bt mk)), .bool (!decide (mk = 0))] by rw [hmk]; rfl) ?_
   refine (ge)<|(QH 4) fun r5=>(Qt 4)<|(gx)<|(Q0)<|Qn ?_
   refine ze rfl ?_ ?_
   ·intro hc2
    have hz1 : mk = 0 := by simpa using hc2
    obtain rfl := hZ hn1 hz1
    refine (gf) ?_
    refine z7 (i := 1) (Uz 37) rfl rfl (z3 _ _) (za ⟨fun _ => rfl, fun _ => rfl, fun _ => h1.1, fun _ => h1.2.1, fun _ => h1.2.2.1, fun _ => h1.2.2.2.1, fun _ => rfl, fun _ => rfl, fun _ => rfl, fun _ => rfl, fun _ => rfl, fun _ => rfl, fun _ => rfl, fun _ => rfl, fun _ => rfl, fun _ => rfl, fun _ => rfl, fun _ => rfl, fun _ => rfl, fun _ => rfl, fun _ => rfl, fun _ => h1.2.2.2.2, fun _ => rfl, trivial⟩) rfl z8 (.inl rfl) ?_
    refine (gh) ?_
    exact ⟨_, _, rfl, yb 1, yt⟩
   ·intro hc2
    have hz1 : ¬ mk = 0 := by simpa using hc2
    obtain ⟨y2, hy2⟩ : ∃ y2, y2 = Wm y (ky (bt mk)) := ⟨_, rfl⟩
    obtain rfl : w = (0, y2, r, us) := by rw [hy2]; exact hK hn1 hz1
    refine Qk<|(gy)<|(Qf 9)<|(QlK 0 9 5) ?_
    refine (Av (SVy y))<|(Qsa 0 32) ?_
    refine zD rfl rfl (Un 194) (zh zo (zY 4 rfl ⟨[], trivial⟩)) (z4l (G := G ++ [(⟨r5, arr .u8 32 (bt mk), 30⟩ : Blk)]) (List.mem_append_left _ hO) y hy _ (ky (bt mk)) ((xh _ (bt mk) _).mono (fun x h => List.mem_append_right _ h)) (ZE (zn4 mk)) (by simp)) rfl rfl ?_
    refine zi (congrArg SVy hy2.symm) ?_
    refine (Qf 9)<|(QtK 0 9 5) ?_
    refine xQ (c' := shC b l vp v0 v1 vt true tn dd y2 ow r vk ((us : Nat) : Int)) rfl ?_
    refine Qn<|(gf) ?_
    refine z7 (i := 1) (Uz 37) rfl rfl (z3 _ _) (za ⟨fun _ => rfl, fun _ => rfl, fun _ => h1.1, fun _ => h1.2.1, fun _ => h1.2.2.1, fun _ => h1.2.2.2.1, fun _ => rfl, fun _ => rfl, fun _ => rfl, fun _ => rfl, fun _ => rfl, fun _ => rfl, fun _ => rfl, fun _ => rfl, fun _ => rfl, fun _ => rfl, fun _ => rfl, fun _ => rfl, fun _ => rfl, fun _ => rfl, fun _ => rfl, fun _ => h1.2.2.2.2, fun _ => rfl, trivial⟩) rfl z8 (.inl rfl) ?_
    refine (gh) ?_
    exact ⟨_, _, rfl, yb 1, yt⟩
theorem z2g (hO : DOR ∈ G) (b : LN) (l : Bool) (vp v0 v1 vt : Value) (tn : Int) (dd : Bool) (y : SY) (r : RS) (ow : NN) (vk : Value) (us : Nat) (ps : List (NN)) (hk : Shows G 32 vk ps.length (psC ps)) (hp : okP ps) (h1 : xn vp v0 v1 vt vk) (hy : okY y) (hr : okR r) (ho : B32 ow) (t : Nat) (h3 : 3 ≤ t) (h6 : t ≤ 6) (w : Nat × SS) (hw : xe false ow ps t (y, r, us) = w) : Fp G 164 #[.agg (shC b l vp v0 v1 vt false tn dd y ow r vk ((us : Nat) : Int)), ii t] (.tuple #[.agg (shC b l vp v0 v1 vt false tn dd w.2.1 ow w.2.2.1 vk ((w.2.2.2 : Nat) : Int)), ii w.1]) := by
 have _u1 := hk
 have _u2 := hp
 obtain ⟨fs, hfs⟩ : ∃ z, z = Xy false ow r t := ⟨_, rfl⟩
 obtain ⟨fp, hfp⟩ : ∃ z, z = XC false r t := ⟨_, rfl⟩
 obtain ⟨bs, hbs⟩ : ∃ z, z = z2e false r t := ⟨_, rfl⟩
 obtain ⟨bw, hbw⟩ : ∃ z, z = z2i false r t := ⟨_, rfl⟩
 have hls : B32 fs := by rw [hfs]; exact zae ho hr
 have hlp : B32 fp := by rw [hfp]; exact zad hr
 obtain ⟨mk, hmk⟩ : ∃ z, z = Xv fs fp := ⟨_, rfl⟩
 have h7 : t ≠ 7 := by omega
 have hN : (bs && bw) = false → w = (5, (y, r, us)) := fun h => by rw [← hw]; exact z2I h7 (by rw [← hbs, ← hbw]; exact h)
 have hZ : ¬ (bs && bw) = false → mk = 0 → w = (12, (y, r, us)) := fun h hz => by rw [← hw]; exact z3w h7 (by rw [← hbs, ← hbw]; exact h) (by rw [← hfs, ← hfp, ← hmk]; exact hz)
 have hK : ¬ (bs && bw) = false → ¬ mk = 0 → w = (0, Wm y (ky (bt mk)), r, us) := fun h hz => by rw [← hw]; exact (z9L h7 (by rw [← hbs, ← hbw]; exact h) (by rw [← hfs, ← hfp, ← hmk]; exact hz)).trans (by rw [← hfs, ← hfp, ← hmk])
 refine Qf2 Tryz.func164 ?_
 refine (g4)<|(Qh 0) fun r1=>(QH 1) fun r2=>(gj) ?_
 refine (Ca (z8K t))<|(ge)<|(g7)<|(gu)<|(Qf 6)<|(QV 6 0)<|(Q0)<|Qn<|(Qct)<|Qp<|(ga)<|(g7)<|(gf)<|(Qm) ?_
 refine (Ca (VI b l vp v0 v1 vt false tn dd y r ow vk us (Vt t))) ?_
 refine zi (show _ = Value.tuple #[.agg (arr .u8 32 fs), .bool bs] by rw [hfs, hbs, ← zdV (fi := false) h3 h6, ← zgz (fi := false) h3 h6]; rfl) ?_
 refine (ge)<|(QH 2) fun r3=>(Qt 2)<|(g3)<|(gf)<|(Qm) ?_
 refine (Ca (VC b l vp v0 v1 vt false tn dd y r ow vk us (Vb t))) ?_
 refine zi (show _ = Value.tuple #[.agg (arr .u8 32 fp), .bool bw] by rw [hfp, hbw, ← zdo (fi := false) h3 h6, ← zdP (fi := false) h3 h6]; rfl) ?_
 refine (ge)<|(QH 3) fun r4=>(Qt 3)<|(g3)<|(gu) ?_
 refine zW [(0, _), (1, _), (2, _), (4, _), (5, _), (6, _), (7, _), (8, _), (9, _), (10, _), (11, _), (14, _), (15, _), (16, _), (17, _), (18, _), (19, _), (20, _), (21, _), (22, _), (23, _), (24, _), (25, _), (26, _), (27, _), (28, _), (29, _), (30, _), (31, _), (32, _), (33, _), (34, _), (35, _)] [(41, .bool (!(bs && bw)))] [(0, some _), (1, some _), (2, some _), (3, some _)] ⟨rfl, rfl, rfl, rfl, rfl, rfl, rfl, rfl, rfl, rfl, rfl, rfl, rfl, rfl, rfl, rfl, rfl, rfl, rfl, rfl, rfl, rfl, rfl, rfl, rfl, rfl, rfl, rfl, rfl, rfl, rfl, rfl, rfl, trivial⟩ ⟨rfl, rfl, rfl, rfl, trivial⟩ ?_ ?_
 ·skip
  refine (Qm)<|(Q0)<|(Qm) ?_
  refine zM (b := (!bs)) (fun hb0 => ?_) (fun hb0 => ?_)
  ·skip
   refine (g6)<|(QT)<|Qn ?_
   exact ⟨⟨rfl, rfl, rfl, rfl, rfl, rfl, rfl, rfl, rfl, rfl, rfl, rfl, rfl, rfl, rfl, rfl, rfl, rfl, rfl, rfl, rfl, rfl, rfl, rfl, rfl, rfl, rfl, rfl, rfl, rfl, rfl, rfl, rfl, trivial⟩, ⟨zf (by rw [Bool.not_and, hb0] <;> rfl), trivial⟩, ⟨rfl, rfl, rfl, rfl, trivial⟩⟩
  ·skip
   refine (Qy)<|(g8)<|(Q0)<|(QF)<|Qn ?_
   exact ⟨⟨rfl, rfl, rfl, rfl, rfl, rfl, rfl, rfl, rfl, rfl, rfl, rfl, rfl, rfl, rfl, rfl, rfl, rfl, rfl, rfl, rfl, rfl, rfl, rfl, rfl, rfl, rfl, rfl, rfl, rfl, rfl, rfl, rfl, trivial⟩, ⟨zf (by rw [Bool.not_and, hb0] <;> rfl), trivial⟩, ⟨rfl, rfl, rfl, rfl, trivial⟩⟩
 ·simp only [zB]
  refine ze rfl ?_ ?_
  ·intro hc1
   have hn1 : (bs && bw) = false := zkt hc1
   obtain rfl := hN hn1
   refine (gf) ?_
   refine z7 (i := 1) (Uz 37) rfl rfl (z3 _ _) (za ⟨fun _ => rfl, fun _ => rfl, fun _ => h1.1, fun _ => h1.2.1, fun _ => h1.2.2.1, fun _ => h1.2.2.2.1, fun _ => rfl, fun _ => rfl, fun _ => rfl, fun _ => rfl, fun _ => rfl, fun _ => rfl, fun _ => rfl, fun _ => rfl, fun _ => rfl, fun _ => rfl, fun _ => rfl, fun _ => rfl, fun _ => rfl, fun _ => rfl, fun _ => rfl, fun _ => h1.2.2.2.2, fun _ => rfl, trivial⟩) rfl z8 (.inl rfl) ?_
   refine (gh) ?_
   exact ⟨_, _, rfl, yb 1, yt⟩
  ·intro hc1
   have hn1 : ¬ (bs && bw) = false := zkc hc1
   refine Qk<|(g4)<|(Qd 2)<|(Qd 3) ?_
   refine (Ca (z16 fs fp hls hlp)) ?_
   refine zi (show _ = Value.tuple #[Value.agg (arr .u8 32 (bt mk)), .bool (!decide (mk = 0))] by rw [hmk]; rfl) ?_
   refine (ge)<|(QH 4) fun r5=>(Qt 4)<|(gx)<|(Q0)<|Qn ?_
   refine ze rfl ?_ ?_
   ·intro hc2
    have hz1 : mk = 0 := by simpa using hc2
    obtain rfl := hZ hn1 hz1
    refine (gf) ?_
    refine z7 (i := 1) (Uz 37) rfl rfl (z3 _ _) (za ⟨fun _ => rfl, fun _ => rfl, fun _ => h1.1, fun _ => h1.2.1, fun _ => h1.2.2.1, fun _ => h1.2.2.2.1, fun _ => rfl, fun _ => rfl, fun _ => rfl, fun _ => rfl, fun _ => rfl, fun _ => rfl, fun _ => rfl, fun _ => rfl, fun _ => rfl, fun _ => rfl, fun _ => rfl, fun _ => rfl, fun _ => rfl, fun _ => rfl, fun _ => rfl, fun _ => h1.2.2.2.2, fun _ => rfl, trivial⟩) rfl z8 (.inl rfl) ?_
    refine (gh) ?_
    exact ⟨_, _, rfl, yb 1, yt⟩
   ·intro hc2
    have hz1 : ¬ mk = 0 := by simpa using hc2
    obtain ⟨y2, hy2⟩ : ∃ y2, y2 = Wm y (ky (bt mk)) := ⟨_, rfl⟩
    obtain rfl : w = (0, y2, r, us) := by rw [hy2]; exact hK hn1 hz1
    refine Qk<|(gy)<|(Qf 9)<|(QlK 0 9 5) ?_
    refine (Av (SVy y))<|(Qsa 0 32) ?_
    refine zD rfl rfl (Un 194) (zh zo (zY 4 rfl ⟨[], trivial⟩)) (z4l (G := G ++ [(⟨r5, arr .u8 32 (bt mk), 30⟩ : Blk)]) (List.mem_append_left _ hO) y hy _ (ky (bt mk)) ((xh _ (bt mk) _).mono (fun x h => List.mem_append_right _ h)) (ZE (zn4 mk)) (by simp)) rfl rfl ?_
    refine zi (congrArg SVy hy2.symm) ?_
    refine (Qf 9)<|(QtK 0 9 5) ?_
    refine xQ (c' := shC b l vp v0 v1 vt false tn dd y2 ow r vk ((us : Nat) : Int)) rfl ?_
    refine Qn<|(gf) ?_
    refine z7 (i := 1) (Uz 37) rfl rfl (z3 _ _) (za ⟨fun _ => rfl, fun _ => rfl, fun _ => h1.1, fun _ => h1.2.1, fun _ => h1.2.2.1, fun _ => h1.2.2.2.1, fun _ => rfl, fun _ => rfl, fun _ => rfl, fun _ => rfl, fun _ => rfl, fun _ => rfl, fun _ => rfl, fun _ => rfl, fun _ => rfl, fun _ => rfl, fun _ => rfl, fun _ => rfl, fun _ => rfl, fun _ => rfl, fun _ => rfl, fun _ => h1.2.2.2.2, fun _ => rfl, trivial⟩) rfl z8 (.inl rfl) ?_
    refine (gh) ?_
    exact ⟨_, _, rfl, yb 1, yt⟩
theorem z8C {G : Mem} (hO : DOR ∈ G) (b : LN) (l : Bool) (vp v0 v1 vt : Value) (fi : Bool) (tn : Int) (dd : Bool) (y : SY) (r : RS) (ow : NN) (vk : Value) (us : Nat) (ps : List (NN)) (hk : Shows G 32 vk ps.length (psC ps)) (hp : okP ps) (h1 : xn vp v0 v1 vt vk) (hy : okY y) (hr : okR r) (ho : B32 ow) (t : Nat) (h3 : 3 ≤ t) (h6 : t ≤ 6) (w : Nat × SS) (hw : xe fi ow ps t (y, r, us) = w) : Fp G 164 #[.agg (shC b l vp v0 v1 vt fi tn dd y ow r vk ((us : Nat) : Int)), ii t] (.tuple #[.agg (shC b l vp v0 v1 vt fi tn dd w.2.1 ow w.2.2.1 vk ((w.2.2.2 : Nat) : Int)), ii w.1]) := by
 cases fi with
 | true => exact z3E hO b l vp v0 v1 vt tn dd y r ow vk us ps hk hp h1 hy hr ho t h3 h6 w hw
 | false => exact z2g hO b l vp v0 v1 vt tn dd y r ow vk us ps hk hp h1 hy hr ho t h3 h6 w hw
theorem z9j (hO : DOR ∈ G) (b : LN) (l : Bool) (vp v0 v1 vt : Value) (fi : Bool) (tn : Int) (dd : Bool) (y : SY) (r : RS) (ow : NN) (vk : Value) (us : Nat) (ps : List (NN)) (hk : Shows G 32 vk ps.length (psC ps)) (hp : okP ps) (h1 : xn vp v0 v1 vt vk) (hy : okY y) (hr : okR r) (ho : B32 ow) (t : Nat) (h3 : 3 ≤ t) (h7 : t ≤ 7) (w : Nat × SS) (hw : xe fi ow ps t (y, r, us) = w) : Fp G 114 #[.agg (shC b l vp v0 v1 vt fi tn dd y ow r vk ((us : Nat) : Int)), ii t] (.tuple #[.agg (shC b l vp v0 v1 vt fi tn dd w.2.1 ow w.2.2.1 vk ((w.2.2.2 : Nat) : Int)), ii w.1]) := by
 refine Qf2 Tryz.func114 ?_
 refine (g4)<|(Qh 0) fun r1=>(QH 1) fun r2=>(gx)<|(Qc)<|Qn ?_
 refine ze rfl ?_ ?_
 ·intro hc0
  obtain rfl : t = 7 := by have := of_decide_eq_true hc0; omega
  refine (gf) ?_
  refine (Ca (zcz hO b l vp v0 v1 vt fi tn dd y r ow vk us ps hk hp h1 hy hr ho w hw))<|(g9) ?_
  refine z7 (i := 1) (Uz 37) rfl rfl (z3 _ _) (za ⟨fun _ => rfl, fun _ => rfl, fun _ => h1.1, fun _ => h1.2.1, fun _ => h1.2.2.1, fun _ => h1.2.2.2.1, fun _ => rfl, fun _ => rfl, fun _ => rfl, fun _ => rfl, fun _ => rfl, fun _ => rfl, fun _ => rfl, fun _ => rfl, fun _ => rfl, fun _ => rfl, fun _ => rfl, fun _ => rfl, fun _ => rfl, fun _ => rfl, fun _ => rfl, fun _ => h1.2.2.2.2, fun _ => rfl, trivial⟩) rfl z8 (.inl rfl) ?_
  refine (gh) ?_
  exact ⟨_, _, rfl, yb 1, yt⟩
 ·intro hc0
  have h9 : ¬ t = 7 := by have := of_decide_eq_false hc0; omega
  refine Qk<|(gf)<|(Qm) ?_
  refine (Ca (z8C hO b l vp v0 v1 vt fi tn dd y r ow vk us ps hk hp h1 hy hr ho t h3 (by omega) w hw))<|(g9) ?_
  refine z7 (i := 1) (Uz 37) rfl rfl (z3 _ _) (za ⟨fun _ => rfl, fun _ => rfl, fun _ => h1.1, fun _ => h1.2.1, fun _ => h1.2.2.1, fun _ => h1.2.2.2.1, fun _ => rfl, fun _ => rfl, fun _ => rfl, fun _ => rfl, fun _ => rfl, fun _ => rfl, fun _ => rfl, fun _ => rfl, fun _ => rfl, fun _ => rfl, fun _ => rfl, fun _ => rfl, fun _ => rfl, fun _ => rfl, fun _ => rfl, fun _ => h1.2.2.2.2, fun _ => rfl, trivial⟩) rfl z8 (.inl rfl) ?_
  refine (gh) ?_
  exact ⟨_, _, rfl, yb 1, yt⟩
theorem zfG {G X : Mem} (has : Bool) (k : NN) (n : Nat) (ch h : NN) (h2 : Bool) (k2 : NN) (n2 : Nat) (v : Value) (l : LN) (hv : Shows ((DOR :: G) ++ X) 1 v l.length (l.map by8)) (hb : By l) (hh : L8 32 h) (hz : l.length ≤ 1073741792) : Fp ((DOR :: G) ++ X) 166 #[SV has k n ch h, CV h2 k2 n2, v] (SV h2 k2 n2 ch (hx h l)) := z68 (G := G ++ X) has k n ch h h2 k2 n2 v l hv hb hh hz
theorem z86 (has : Bool) (k : NN) (n : Nat) (ch h : NN) (vt : Value) (tx : LN) (hvt : Sh (DOR :: G) vt tx) (e : Nat) (he : e ≠ 0) (hE : ∀ (G2 : Mem) (va : Value), Sh G2 va ((List.range 32).map h) → Sh G2 vt tx → Fp G2 165 #[CV has k n, va, vt] (.tuple #[CZ, zV, ii e])) : Fp (DOR :: G) 115 #[SV has k n ch h, vt] (.tuple #[(.agg (zr 98 [pV (.bool false), pI .u8 32 (fun _ => 0), pV (.int .u64 0), pI .u8 32 (fun _ => 0), pI .u8 32 (fun _ => 0)])), zV, ii e]) := by
 refine Qf3 Tryz.func115 ?_
 refine (g4)<|(Qh 0) fun r1=>(QH 1) fun r2=>(g7)<|(gy)<|(Qf 0)<|(QlK 0 0 3) ?_
 refine (Av (CV has k n))<|(Qf 66)<|(Qsa 0 32)<|(Qm) ?_
 refine zD rfl rfl (Un 165) (zh (zY 0 rfl ⟨[], trivial⟩) zo) (hE ([⟨r1, cS has k n ch h, 35⟩] ++ (DOR :: G)) _ ((Zo r1 4 35 h rfl (Nat.le_of_ble_eq_true rfl) (Nat.le_of_ble_eq_true rfl)).mono (fun x h => List.mem_append_left _ h)) (hvt.mono (fun x h => List.mem_append_right _ h))) rfl rfl ?_
 refine (ge)<|(Qx)<|(QH 2) fun r3=>(QW 2)<|(gv)<|(QN)<|(Qat)<|Qn<|(Qct)<|(g4) ?_
 refine yn (zr 98 [pV (.bool false), pI .u8 32 (fun _ => 0), pV (.int .u64 0), pI .u8 32 (fun _ => 0), pI .u8 32 (fun _ => 0)]) (Ub 35 rfl) (Uu 35 rfl) zdm rfl (by kernel_rfl) rfl ?_
 refine (Qm)<|(QW 1)<|(gr) ?_
 exact ⟨_, _, _, rfl, yb 1, yt, yt⟩
theorem z2O (has : Bool) (k : NN) (n : Nat) (ch h : NN) (vt : Value) (tx out : LN) (hvt : Sh (DOR :: G) vt tx) (hob : By out) (hol : out.length ≤ 1000) (hh : L8 32 h) (h2 : Bool) (k2 : NN) (n2 : Nat) (hE : ∀ (G2 : Mem) (va : Value), Sh G2 va ((List.range 32).map h) → Sh G2 vt tx → Fq G2 [] 165 #[CV has k n, va, vt] (fun v l1 nw => l1 = [] ∧ ∃ v', v = .tuple #[CV h2 k2 n2, v', ii 0] ∧ OwnS 5 1 v' out.length (out.map by8) nw)) : Fq (DOR :: G) [] 115 #[SV has k n ch h, vt] (fun v l1 nw => l1 = [] ∧ ∃ v', v = .tuple #[SV h2 k2 n2 ch (hx h out), v', ii 0] ∧ OwnS 5 1 v' out.length (out.map by8) nw) := by
 refine QfO Tryz.func115 ?_
 refine (g4)<|(Qh 0) fun r1=>(QH 1) fun r2=>(g7)<|Qs<|(Qq ⟨[], 4, [], none, none⟩)<|(Qf 0)<|(QlK 0 0 3) ?_
 refine (Av (CV has k n))<|(Qf 66)<|(Qsa 0 32)<|(Qm) ?_
 refine zK 2 (fun v => .tuple #[CV h2 k2 n2, v, ii 0]) rfl rfl (Un 165) (zh (zY 0 rfl ⟨[], trivial⟩) zo) (hE ([⟨r1, cS has k n ch h, 35⟩] ++ (DOR :: G)) _ ((Zo r1 4 35 h rfl (Nat.le_of_ble_eq_true rfl) (Nat.le_of_ble_eq_true rfl)).mono (fun x h => List.mem_append_left _ h)) (hvt.mono (fun x h => List.mem_append_right _ h))) (by simp only [maxLen]; omega) (by rw [List.length_map, Nat.mul_one]) rfl rfl fun v1_1 oz1_1 ho1_1 => ?_
 refine (ge)<|(Qx)<|(QH 3) fun r4=>(QW 3)<|(gv)<|(QN) ?_
 refine zi (congrArg Value.bool (decide_eq_false (fun h => h rfl))) ?_
 refine (gp)<|(gf) ?_
 refine (Av (SV has k n ch h))<|(QD 3) ?_
 refine (Av (CV h2 k2 n2))<|(Qm) ?_
 refine zD rfl rfl (Un 166) (zh zo (xF 2 rfl ⟨[], trivial⟩)) (zfG (G := G) (X := oz1_1.toList) has k n ch h h2 k2 n2 _ out (Shows.mono (yM ho1_1) (fun x h => List.mem_append_right _ h)) hob hh (by omega)) rfl rfl ?_
 refine (Qm)<|(QW 1)<|(gr) ?_
 exact ⟨_, _, _, _, _, 2, rfl, yb 1, yt, yt, ho1_1, rfl⟩
theorem z8E (has : Bool) (k : NN) (n : Nat) (ch h : NN) (vt : Value) (tx : LN) (hvt : Sh (DOR :: G) vt tx) (e : Nat) (he : e ≠ 0) (hE : ∀ (G2 : Mem) (va : Value), Sh G2 va ((List.range 32).map h) → Sh G2 vt tx → Fp G2 170 #[CV has k n, va, vt] (.tuple #[CZ, zV, ii e])) : Fp (DOR :: G) 124 #[SV has k n ch h, vt] (.tuple #[(.agg (zr 98 [pV (.bool false), pI .u8 32 (fun _ => 0), pV (.int .u64 0), pI .u8 32 (fun _ => 0), pI .u8 32 (fun _ => 0)])), zV, ii e]) := by
 refine Qf3 Tryz.func124 ?_
 refine (g4)<|(Qh 0) fun r1=>(QH 1) fun r2=>(g7)<|(gy)<|(Qf 0)<|(QlK 0 0 3) ?_
 refine (Av (CV has k n))<|(Qf 66)<|(Qsa 0 32)<|(Qm) ?_
 refine zD rfl rfl (Un 170) (zh (zY 0 rfl ⟨[], trivial⟩) zo) (hE ([⟨r1, cS has k n ch h, 35⟩] ++ (DOR :: G)) _ ((Zo r1 4 35 h rfl (Nat.le_of_ble_eq_true rfl) (Nat.le_of_ble_eq_true rfl)).mono (fun x h => List.mem_append_left _ h)) (hvt.mono (fun x h => List.mem_append_right _ h))) rfl rfl ?_
 refine (ge)<|(Qx)<|(QH 2) fun r3=>(QW 2)<|(gv)<|(QN)<|(Qat)<|Qn<|(Qct)<|(g4) ?_
 refine yn (zr 98 [pV (.bool false), pI .u8 32 (fun _ => 0), pV (.int .u64 0), pI .u8 32 (fun _ => 0), pI .u8 32 (fun _ => 0)]) (Ub 35 rfl) (Uu 35 rfl) zdm rfl (by kernel_rfl) rfl ?_
 refine (Qm)<|(QW 1)<|(gr) ?_
 exact ⟨_, _, _, rfl, yb 1, yt, yt⟩
theorem z3m (has : Bool) (k : NN) (n : Nat) (ch h : NN) (vt : Value) (tx out : LN) (hvt : Sh (DOR :: G) vt tx) (htb : By tx) (htl : tx.length ≤ 1000) (hol : out.length ≤ 1000) (hh : L8 32 h) (h2 : Bool) (k2 : NN) (n2 : Nat) (hE : ∀ (G2 : Mem) (va : Value), Sh G2 va ((List.range 32).map h) → Sh G2 vt tx → Fq G2 [] 170 #[CV has k n, va, vt] (fun v l1 nw => l1 = [] ∧ ∃ v', v = .tuple #[CV h2 k2 n2, v', ii 0] ∧ OwnS 5 1 v' out.length (out.map by8) nw)) : Fq (DOR :: G) [] 124 #[SV has k n ch h, vt] (fun v l1 nw => l1 = [] ∧ ∃ v', v = .tuple #[SV h2 k2 n2 ch (hx h tx), v', ii 0] ∧ OwnS 5 1 v' out.length (out.map by8) nw) := by
 refine QfO Tryz.func124 ?_
 refine (g4)<|(Qh 0) fun r1=>(QH 1) fun r2=>(g7)<|Qs<|(Qq ⟨[], 4, [], none, none⟩)<|(Qf 0)<|(QlK 0 0 3) ?_
 refine (Av (CV has k n))<|(Qf 66)<|(Qsa 0 32)<|(Qm) ?_
 refine zK 2 (fun v => .tuple #[CV h2 k2 n2, v, ii 0]) rfl rfl (Un 170) (zh (zY 0 rfl ⟨[], trivial⟩) zo) (hE ([⟨r1, cS has k n ch h, 35⟩] ++ (DOR :: G)) _ ((Zo r1 4 35 h rfl (Nat.le_of_ble_eq_true rfl) (Nat.le_of_ble_eq_true rfl)).mono (fun x h => List.mem_append_left _ h)) (hvt.mono (fun x h => List.mem_append_right _ h))) (by simp only [maxLen]; omega) (by rw [List.length_map, Nat.mul_one]) rfl rfl fun v1_1 oz1_1 ho1_1 => ?_
 refine (ge)<|(Qx)<|(QH 3) fun r4=>(QW 3)<|(gv)<|(QN) ?_
 refine zi (congrArg Value.bool (decide_eq_false (fun h => h rfl))) ?_
 refine (gp)<|(gf) ?_
 refine (Av (SV has k n ch h))<|(QD 3) ?_
 refine (Av (CV h2 k2 n2))<|(Qm) ?_
 refine (Ca (z68 has k n ch h h2 k2 n2 vt tx hvt htb hh (by omega)))<|(Qm)<|(QW 1)<|(gr) ?_
 exact ⟨_, _, _, _, _, 2, rfl, yb 1, yt, yt, ho1_1, rfl⟩
theorem z2U (has : Bool) (k : NN) (n : Nat) (va vt : Value) (vf : Value) (hok : okC has k n = false) : Fp G 216 #[CV has k n, va, vt, vf] (.tuple #[CZ, zV, ii 9]) := by
 refine Qf3 Tryz.func216 ?_
 refine (g4)<|(Qh 0) fun r1=>(QH 1) fun r2=>(g7)<|Qs<|(gf) ?_
 refine (Ca (vo has k n)) ?_
 refine (Ai (show (if okC has k n = true then 0 else 9) = 9 by rw [hok]; rfl))<|(gj)<|(QN)<|Qn<|(Qct)<|(g4) ?_
 refine yn (zr 34 [pV (.bool false), pI .u8 32 (fun _ => 0), pV (.int .u64 0)]) (Ub 33 rfl) (Uu 33 rfl) WH rfl (by kernel_rfl) rfl ?_
 refine (Qm)<|(QW 1)<|(gr) ?_
 exact ⟨_, _, _, rfl, yb 1, yt, yt⟩
theorem z0W (k : NN) (n : Nat) (va vt : Value) (vf : Value) (tx : LN) (hvt : Sh G vt tx) (hok : okC false k n = true) (hl : 800 < tx.length) : Fp G 216 #[CV false k n, va, vt, vf] (.tuple #[CZ, zV, ii 1]) := by
 refine Qf3 Tryz.func216 ?_
 refine (g4)<|(Qh 0) fun r1=>(QH 1) fun r2=>(g7)<|Qs<|(gf) ?_
 refine (Ca (vo false k n)) ?_
 refine (Ai (show (if okC false k n = true then 0 else 9) = 0 by rw [hok]; rfl))<|(gj)<|(QN)<|(gp)<|(gu)<|(Qf 0)<|(QV 0 0)<|(Q0)<|Qn<|(Qct)<|(gf)<|(Qm) ?_
 refine (Ca (z7X k n vt tx hvt hl))<|(g9)<|(Qx)<|(QW 1)<|(gr) ?_
 exact ⟨_, _, _, rfl, yb 1, yt, yt⟩
theorem VJ (k : NN) (n : Nat) (va vt : Value) (vf : Value) (tx : LN) (hvt : Sh G vt tx) (hok : okC false k n = true) (hl : tx.length ≤ 800) : Fq G [] 216 #[CV false k n, va, vt, vf] (fun v l1 nw => l1 = [] ∧ ∃ v', v = .tuple #[CV false k n, v', ii 0] ∧ OwnS 5 1 v' tx.length (tx.map by8) nw) := by
 refine QfO Tryz.func216 ?_
 refine (g4)<|(Qh 0) fun r1=>(QH 1) fun r2=>(g7)<|Qs<|(gf) ?_
 refine (Ca (vo false k n)) ?_
 refine (Ai (show (if okC false k n = true then 0 else 9) = 0 by rw [hok]; rfl))<|(gj)<|(QN)<|(gp)<|(gu)<|(Qf 0)<|(QV 0 0)<|(Q0)<|Qn<|(Qct)<|Qs<|QR ⟨[], 4, [], none, none⟩<|(QD 0)<|(Qm) ?_
 refine zK 2 (fun v => .tuple #[CV false k n, v, ii 0]) rfl rfl (Un 242) zo (zaG k n vt tx hvt hl) (by simp only [maxLen]; omega) (by rw [List.length_map, Nat.mul_one]) rfl rfl fun v3_1 oz3_1 ho3_1 => ?_
 refine (g9)<|(Qx)<|(QW 1)<|(gr) ?_
 exact ⟨_, _, _, _, _, 2, rfl, yb 1, yt, yt, ho3_1, rfl⟩
theorem z0t (k : NN) (n : Nat) (va vt : Value) (vf : Value) (hn : n = 18446744073709551615) : Fp G 216 #[CV true k n, va, vt, vf] (.tuple #[CZ, zV, ii 11]) := by
 have hok : okC true k n = true := rfl
 refine Qf3 Tryz.func216 ?_
 refine (g4)<|(Qh 0) fun r1=>(QH 1) fun r2=>(g7)<|Qs<|(gf) ?_
 refine (Ca (vo true k n)) ?_
 refine (Ai (show (if okC true k n = true then 0 else 9) = 0 by rw [hok]; rfl))<|(gj)<|(QN)<|(gp)<|(gu)<|(Qf 0)<|(QV 0 0)<|(Q0)<|(gp)<|(gu)<|(Qf 33)<|(QV 2 0)<|(Qc) ?_
 refine (Ab (decide_eq_true (by rw [hn]; decide)))<|Qn<|(Qct)<|(g4) ?_
 refine yn (zr 34 [pV (.bool false), pI .u8 32 (fun _ => 0), pV (.int .u64 0)]) (Ub 33 rfl) (Uu 33 rfl) WH rfl (by kernel_rfl) rfl ?_
 refine (QW 1)<|(gr) ?_
 exact ⟨_, _, _, rfl, yb 1, yt, yt⟩
theorem Z7 (k : NN) (n : Nat) (va vt : Value) (hn : n < 18446744073709551615) (e : Nat) (he : e ≠ 0) (hE : Fp G 222 #[.agg (arr .u8 32 k), .agg (arr .u8 12 (xT n)), va, vt] (.tuple #[zV, ii e])) : Fp G 216 #[CV true k n, va, vt, .func (.func 222) #[] #[]] (.tuple #[CZ, zV, ii e]) := by
 have hok : okC true k n = true := rfl
 refine Qf3 Tryz.func216 ?_
 refine (g4)<|(Qh 0) fun r1=>(QH 1) fun r2=>(g7)<|Qs<|(gf) ?_
 refine (Ca (vo true k n)) ?_
 refine (Ai (show (if okC true k n = true then 0 else 9) = 0 by rw [hok]; rfl))<|(gj)<|(QN)<|(gp)<|(gu)<|(Qf 0)<|(QV 0 0)<|(Q0)<|(gp)<|(gu)<|(Qf 33)<|(QV 2 0)<|(Qc)<|(Qaf)<|(gp)<|(gy)<|(Qm)<|(Qf 1)<|(Qv 1 0)<|(Qf 33)<|(QV 2 0) ?_
 refine (Ca (Xd n))<|(ga) ?_
 refine zD rfl rfl (Un 222) zo hE rfl rfl ?_
 refine (ge)<|(gv)<|(QN)<|(Qat)<|Qn<|(Qct)<|(g4) ?_
 refine yn (zr 34 [pV (.bool false), pI .u8 32 (fun _ => 0), pV (.int .u64 0)]) (Ub 33 rfl) (Uu 33 rfl) WH rfl (by kernel_rfl) rfl ?_
 refine (Qm)<|(QW 1)<|(gr) ?_
 exact ⟨_, _, _, rfl, yb 1, yt, yt⟩
theorem z2f (k : NN) (n : Nat) (va vt : Value) (hn : n < 18446744073709551615) (out : LN) (hm : out.length ≤ maxLen) (hE : Fq G [] 222 #[.agg (arr .u8 32 k), .agg (arr .u8 12 (xT n)), va, vt] (R2 5 out)) : Fq G [] 216 #[CV true k n, va, vt, .func (.func 222) #[] #[]] (fun v l1 nw => l1 = [] ∧ ∃ v', v = .tuple #[CV true k (n + 1), v', ii 0] ∧ OwnS 5 1 v' out.length (out.map by8) nw) := by
 have hok : okC true k n = true := rfl
 refine QfO Tryz.func216 ?_
 refine (g4)<|(Qh 0) fun r1=>(QH 1) fun r2=>(g7)<|Qs<|(gf) ?_
 refine (Ca (vo true k n)) ?_
 refine (Ai (show (if okC true k n = true then 0 else 9) = 0 by rw [hok]; rfl))<|(gj)<|(QN)<|(gp)<|(gu)<|(Qf 0)<|(QV 0 0)<|(Q0)<|(gp)<|(gu)<|(Qf 33)<|(QV 2 0)<|(Qc)<|(Qaf)<|(gp)<|Qs<|(Qq ⟨[], 4, [], none, none⟩)<|(Qm)<|(Qf 1)<|(Qv 1 0)<|(Qf 33)<|(QV 2 0) ?_
 refine (Ca (Xd n))<|(ga) ?_
 refine zK 2 (fun v => .tuple #[v, ii 0]) rfl rfl (Un 222) zo hE hm (by rw [List.length_map, Nat.mul_one]) rfl rfl fun v4_1 oz4_1 ho4_1 => ?_
 refine (ge)<|(gv)<|(QN) ?_
 refine zi (congrArg Value.bool (decide_eq_false (fun h => h rfl))) ?_
 refine (gp)<|(g4)<|(Qf 33)<|(QV 2 0) ?_
 refine z0p (q := 1) rfl rfl rfl  ?_
 refine (Au (Nat.mod_eq_of_lt (show n + 1 < 18446744073709551616 by omega)))<|(Qf 33)<|(QtV 0 2)<|Qn<|(gf) ?_
 refine (Av (CV true k (n + 1)))<|(Qm)<|(QW 1)<|(gr) ?_
 exact ⟨_, _, _, _, _, 2, rfl, yb 1, yt, yt, ho4_1, rfl⟩
theorem z0E (k : NN) (n : Nat) (va vt : Value) (hn : n < 18446744073709551615) (e : Nat) (he : e ≠ 0) (hE : Fp G 217 #[.agg (arr .u8 32 k), .agg (arr .u8 12 (xT n)), va, vt] (.tuple #[zV, ii e])) : Fp G 216 #[CV true k n, va, vt, .func (.func 217) #[] #[]] (.tuple #[CZ, zV, ii e]) := by
 have hok : okC true k n = true := rfl
 refine Qf3 Tryz.func216 ?_
 refine (g4)<|(Qh 0) fun r1=>(QH 1) fun r2=>(g7)<|Qs<|(gf) ?_
 refine (Ca (vo true k n)) ?_
 refine (Ai (show (if okC true k n = true then 0 else 9) = 0 by rw [hok]; rfl))<|(gj)<|(QN)<|(gp)<|(gu)<|(Qf 0)<|(QV 0 0)<|(Q0)<|(gp)<|(gu)<|(Qf 33)<|(QV 2 0)<|(Qc)<|(Qaf)<|(gp)<|(gy)<|(Qm)<|(Qf 1)<|(Qv 1 0)<|(Qf 33)<|(QV 2 0) ?_
 refine (Ca (Xd n))<|(ga) ?_
 refine zD rfl rfl (Un 217) zo hE rfl rfl ?_
 refine (ge)<|(gv)<|(QN)<|(Qat)<|Qn<|(Qct)<|(g4) ?_
 refine yn (zr 34 [pV (.bool false), pI .u8 32 (fun _ => 0), pV (.int .u64 0)]) (Ub 33 rfl) (Uu 33 rfl) WH rfl (by kernel_rfl) rfl ?_
 refine (Qm)<|(QW 1)<|(gr) ?_
 exact ⟨_, _, _, rfl, yb 1, yt, yt⟩
theorem z2n (k : NN) (n : Nat) (va vt : Value) (hn : n < 18446744073709551615) (out : LN) (hm : out.length ≤ maxLen) (hE : Fq G [] 217 #[.agg (arr .u8 32 k), .agg (arr .u8 12 (xT n)), va, vt] (R2 5 out)) : Fq G [] 216 #[CV true k n, va, vt, .func (.func 217) #[] #[]] (fun v l1 nw => l1 = [] ∧ ∃ v', v = .tuple #[CV true k (n + 1), v', ii 0] ∧ OwnS 5 1 v' out.length (out.map by8) nw) := by
 have hok : okC true k n = true := rfl
 refine QfO Tryz.func216 ?_
 refine (g4)<|(Qh 0) fun r1=>(QH 1) fun r2=>(g7)<|Qs<|(gf) ?_
 refine (Ca (vo true k n)) ?_
 refine (Ai (show (if okC true k n = true then 0 else 9) = 0 by rw [hok]; rfl))<|(gj)<|(QN)<|(gp)<|(gu)<|(Qf 0)<|(QV 0 0)<|(Q0)<|(gp)<|(gu)<|(Qf 33)<|(QV 2 0)<|(Qc)<|(Qaf)<|(gp)<|Qs<|(Qq ⟨[], 4, [], none, none⟩)<|(Qm)<|(Qf 1)<|(Qv 1 0)<|(Qf 33)<|(QV 2 0) ?_
 refine (Ca (Xd n))<|(ga) ?_
 refine zK 2 (fun v => .tuple #[v, ii 0]) rfl rfl (Un 217) zo hE hm (by rw [List.length_map, Nat.mul_one]) rfl rfl fun v4_1 oz4_1 ho4_1 => ?_
 refine (ge)<|(gv)<|(QN) ?_
 refine zi (congrArg Value.bool (decide_eq_false (fun h => h rfl))) ?_
 refine (gp)<|(g4)<|(Qf 33)<|(QV 2 0) ?_
 refine z0p (q := 1) rfl rfl rfl  ?_
 refine (Au (Nat.mod_eq_of_lt (show n + 1 < 18446744073709551616 by omega)))<|(Qf 33)<|(QtV 0 2)<|Qn<|(gf) ?_
 refine (Av (CV true k (n + 1)))<|(Qm)<|(QW 1)<|(gr) ?_
 exact ⟨_, _, _, _, _, 2, rfl, yb 1, yt, yt, ho4_1, rfl⟩
theorem z7Q (has : Bool) (k : NN) (n : Nat) (va vt : Value) (e : Nat) (hU : Fp G 216 #[CV has k n, va, vt, .func (.func 222) #[] #[]] (.tuple #[CZ, zV, ii e])) : Fp G 170 #[CV has k n, va, vt] (.tuple #[CZ, zV, ii e]) := by
 refine Qf3 Tryz.func170 ?_
 refine (g4)<|(Qh 0) fun r1=>(QH 1) fun r2=>(g7)<|(gf)<|(ga) ?_
 refine (Ca hU)<|(g9)<|(Qx)<|(QW 1)<|(gr) ?_
 exact ⟨_, _, _, rfl, yb 1, yt, yt⟩
theorem z3r (has : Bool) (k : NN) (n : Nat) (va vt : Value) (h2 : Bool) (k2 : NN) (n2 : Nat) (out : LN) (hm : out.length ≤ maxLen) (hU : Fq G [] 216 #[CV has k n, va, vt, .func (.func 222) #[] #[]] (fun v l1 nw => l1 = [] ∧ ∃ v', v = .tuple #[CV h2 k2 n2, v', ii 0] ∧ OwnS 5 1 v' out.length (out.map by8) nw)) : Fq G [] 170 #[CV has k n, va, vt] (fun v l1 nw => l1 = [] ∧ ∃ v', v = .tuple #[CV h2 k2 n2, v', ii 0] ∧ OwnS 5 1 v' out.length (out.map by8) nw) := by
 refine QfO Tryz.func170 ?_
 refine (g4)<|(Qh 0) fun r1=>(QH 1) fun r2=>(g7)<|Qs<|QR ⟨[], 4, [], none, none⟩<|(QD 0)<|(ga) ?_
 refine zK 2 (fun v => .tuple #[CV h2 k2 n2, v, ii 0]) rfl rfl (Un 216) zo hU hm (by rw [List.length_map, Nat.mul_one]) rfl rfl fun v1_1 oz1_1 ho1_1 => ?_
 refine (g9)<|(Qx)<|(QW 1)<|(gr) ?_
 exact ⟨_, _, _, _, _, 2, rfl, yb 1, yt, yt, ho1_1, rfl⟩
theorem z7t (has : Bool) (k : NN) (n : Nat) (va vt : Value) (e : Nat) (hU : Fp G 216 #[CV has k n, va, vt, .func (.func 217) #[] #[]] (.tuple #[CZ, zV, ii e])) : Fp G 165 #[CV has k n, va, vt] (.tuple #[CZ, zV, ii e]) := by
 refine Qf3 Tryz.func165 ?_
 refine (g4)<|(Qh 0) fun r1=>(QH 1) fun r2=>(g7)<|(gf)<|(ga) ?_
 refine (Ca hU)<|(g9)<|(Qx)<|(QW 1)<|(gr) ?_
 exact ⟨_, _, _, rfl, yb 1, yt, yt⟩
theorem z2r (has : Bool) (k : NN) (n : Nat) (va vt : Value) (h2 : Bool) (k2 : NN) (n2 : Nat) (out : LN) (hm : out.length ≤ maxLen) (hU : Fq G [] 216 #[CV has k n, va, vt, .func (.func 217) #[] #[]] (fun v l1 nw => l1 = [] ∧ ∃ v', v = .tuple #[CV h2 k2 n2, v', ii 0] ∧ OwnS 5 1 v' out.length (out.map by8) nw)) : Fq G [] 165 #[CV has k n, va, vt] (fun v l1 nw => l1 = [] ∧ ∃ v', v = .tuple #[CV h2 k2 n2, v', ii 0] ∧ OwnS 5 1 v' out.length (out.map by8) nw) := by
 refine QfO Tryz.func165 ?_
 refine (g4)<|(Qh 0) fun r1=>(QH 1) fun r2=>(g7)<|Qs<|QR ⟨[], 4, [], none, none⟩<|(QD 0)<|(ga) ?_
 refine zK 2 (fun v => .tuple #[CV h2 k2 n2, v, ii 0]) rfl rfl (Un 216) zo hU hm (by rw [List.length_map, Nat.mul_one]) rfl rfl fun v1_1 oz1_1 ho1_1 => ?_
 refine (g9)<|(Qx)<|(QW 1)<|(gr) ?_
 exact ⟨_, _, _, _, _, 2, rfl, yb 1, yt, yt, ho1_1, rfl⟩
theorem zgd {G : Mem} (hO : DOR ∈ G) (y : SY) (hy : okY y) (vt : Value) (tx : LN) (hvt : Sh G vt tx) (htb : By tx) (w : Nat × SY × LN) (hw : xj y tx = w) :
  (w.1 ≠ 0 → Fn Tryz.prog G 115 #[SVy y, vt] (.tuple #[SVy w.2.1, zV, ii w.1])) ∧ (w.1 = 0 → Fx Tryz.prog G [] 115 #[SVy y, vt] (fun v l1 nw => l1 = [] ∧ ∃ v', v = .tuple #[SVy w.2.1, v', ii 0] ∧ OwnS 5 1 v' w.2.2.length (w.2.2.map by8) nw)) := by
 obtain ⟨has, k, n, ch, h⟩ := y
 obtain ⟨hk, hn, hc, hh⟩ := hy
 have hv2 : Shows (DOR :: G) 1 vt tx.length (tx.map by8) := hvt.mono fun _ hx => List.mem_cons_of_mem _ hx
 have hk : ∀ j, j < 32 → k j < 256 := hk
 have hn : n < 18446744073709551616 := hn
 have hh : ∀ j, j < 32 → h j < 256 := hh
 have ee : ∀ (has : Bool) (e : Nat), e ≠ 0 → (∀ (G2 : Mem) (va : Value), Shows G2 1 va (ky h).length ((ky h).map by8) → Shows G2 1 vt tx.length (tx.map by8) → Fn Tryz.prog G2 216 #[CV has k n, va, vt, .func (.func 217) #[] #[]] (.tuple #[CZ, zV, ii e])) → Fn Tryz.prog G 115 #[SV has k n ch h, vt] (.tuple #[SVy SYZ, zV, ii e]) := fun has e he hU =>
  (z86 (G := G) has k n ch h vt tx hv2 e he (fun G2 va ha ht => z7t has k n va vt e (hU G2 va ha ht))).more (in1 hO)
 by_cases hok : okC has k n = false
 ·obtain rfl : w = (9, SYZ, []) := by rw [← hw]; exact if_pos hok
  exact ⟨fun _ => ee has 9 (by decide) fun _ va _ _ => z2U has k n va vt _ hok, fun h0 => absurd h0 zd6⟩
 have hok2 : okC has k n = true := by simpa using hok
 cases has
 ·by_cases hl : 800 < tx.length
  ·obtain rfl : w = (1, SYZ, []) := by rw [← hw]; exact (if_neg hok).trans ((if_pos rfl).trans (if_pos hl))
   exact ⟨fun _ => ee false 1 (by decide) fun _ va _ ht => z0W k n va vt _ tx ht hok2 hl, fun h0 => absurd h0 z48⟩
  ·obtain rfl : w = (0, y6 (false, k, n, ch, h) tx, tx) := by rw [← hw]; exact (if_neg hok).trans ((if_pos rfl).trans (if_neg hl))
   exact ⟨fun h0 => absurd rfl h0, fun _ => (z2O (G := G) false k n ch h vt tx tx hv2 htb (by omega) hh false k n (fun G2 va _ ht => z2r false k n va vt false k n tx (by simp only [maxLen]; omega) (VJ k n va vt _ tx ht hok2 (by omega)))).wide (in1 hO)⟩
 have ht : ¬ true = false := by decide
 by_cases hov : n = 18446744073709551615
 ·obtain rfl : w = (11, SYZ, []) := by rw [← hw]; exact (if_neg hok).trans ((if_neg ht).trans (if_pos hov))
  exact ⟨fun _ => ee true 11 (by decide) fun _ va _ _ => z0t k n va vt _ hov, fun h0 => absurd h0 z2Q⟩
 have hn1 : n < 18446744073709551615 := by omega
 by_cases h2 : 800 < tx.length
 ·obtain rfl : w = (1, SYZ, []) := by rw [← hw]; exact (if_neg hok).trans ((if_neg ht).trans ((if_neg hov).trans (if_pos h2)))
  exact ⟨fun _ => ee true 1 (by decide) fun _ va ha ht => z0E k n va vt hn1 1 (by decide) (z7r k (xT n) va vt (ky h) tx ha ht (by simp) h2), fun h0 => absurd h0 z48⟩
 obtain rfl : w = (0, (true, k, n + 1, ch, hx h (vJ k (xT n) (ky h) tx)), vJ k (xT n) (ky h) tx) := by rw [← hw]; exact (if_neg hok).trans ((if_neg ht).trans ((if_neg hov).trans (if_neg h2)))
 exact ⟨fun h0 => absurd rfl h0, fun _ => (z2O (G := G) true k n ch h vt tx (vJ k (xT n) (ky h) tx) hv2 (z15 _ _ _ _) (by rw [xB]; omega) hh true k (n + 1) (fun G2 va ha ht => z2r true k n va vt true k (n + 1) _ (by rw [xB]; simp only [maxLen]; omega) (z2n k n va vt hn1 _ (by rw [xB]; simp only [maxLen]; omega) (zgc k (xT n) va vt (ky h) tx hk (z4c n) ha ht (ZE hh) (by simp) (by omega))))).wide (in1 hO)⟩
theorem zgu {G : Mem} (hO : DOR ∈ G) (y : SY) (hy : okY y) (vt : Value) (tx : LN) (hvt : Sh G vt tx) (htb : By tx) (w : Nat × SY × LN) (hw : yA y tx = w) :
  (w.1 ≠ 0 → Fn Tryz.prog G 124 #[SVy y, vt] (.tuple #[SVy w.2.1, zV, ii w.1])) ∧ (w.1 = 0 → Fx Tryz.prog G [] 124 #[SVy y, vt] (fun v l1 nw => l1 = [] ∧ ∃ v', v = .tuple #[SVy w.2.1, v', ii 0] ∧ OwnS 5 1 v' w.2.2.length (w.2.2.map by8) nw)) := by
 obtain ⟨has, k, n, ch, h⟩ := y
 obtain ⟨hk, hn, hc, hh⟩ := hy
 have hv2 : Shows (DOR :: G) 1 vt tx.length (tx.map by8) := hvt.mono fun _ hx => List.mem_cons_of_mem _ hx
 have hk : ∀ j, j < 32 → k j < 256 := hk
 have hn : n < 18446744073709551616 := hn
 have hh : ∀ j, j < 32 → h j < 256 := hh
 have ee : ∀ (has : Bool) (e : Nat), e ≠ 0 → (∀ (G2 : Mem) (va : Value), Shows G2 1 va (ky h).length ((ky h).map by8) → Shows G2 1 vt tx.length (tx.map by8) → Fn Tryz.prog G2 216 #[CV has k n, va, vt, .func (.func 222) #[] #[]] (.tuple #[CZ, zV, ii e])) → Fn Tryz.prog G 124 #[SV has k n ch h, vt] (.tuple #[SVy SYZ, zV, ii e]) := fun has e he hU =>
  (z8E (G := G) has k n ch h vt tx hv2 e he (fun G2 va ha ht => z7Q has k n va vt e (hU G2 va ha ht))).more (in1 hO)
 by_cases hok : okC has k n = false
 ·obtain rfl : w = (9, SYZ, []) := by rw [← hw]; exact if_pos hok
  exact ⟨fun _ => ee has 9 (by decide) fun _ va _ _ => z2U has k n va vt _ hok, fun h0 => absurd h0 zd6⟩
 have hok2 : okC has k n = true := by simpa using hok
 cases has
 ·by_cases hl : 800 < tx.length
  ·obtain rfl : w = (1, SYZ, []) := by rw [← hw]; exact (if_neg hok).trans ((if_pos rfl).trans (if_pos hl))
   exact ⟨fun _ => ee false 1 (by decide) fun _ va _ ht => z0W k n va vt _ tx ht hok2 hl, fun h0 => absurd h0 z48⟩
  ·obtain rfl : w = (0, y6 (false, k, n, ch, h) tx, tx) := by rw [← hw]; exact (if_neg hok).trans ((if_pos rfl).trans (if_neg hl))
   exact ⟨fun h0 => absurd rfl h0, fun _ => (z3m (G := G) false k n ch h vt tx tx hv2 htb (by omega) (by omega) hh false k n (fun G2 va _ ht => z3r false k n va vt false k n tx (by simp only [maxLen]; omega) (VJ k n va vt _ tx ht hok2 (by omega)))).wide (in1 hO)⟩
 have ht : ¬ true = false := by decide
 by_cases hov : n = 18446744073709551615
 ·obtain rfl : w = (11, SYZ, []) := by rw [← hw]; exact (if_neg hok).trans ((if_neg ht).trans (if_pos hov))
  exact ⟨fun _ => ee true 11 (by decide) fun _ va _ _ => z0t k n va vt _ hov, fun h0 => absurd h0 z2Q⟩
 have hn1 : n < 18446744073709551615 := by omega
 by_cases h2 : 816 < tx.length
 ·obtain rfl : w = (1, SYZ, []) := by rw [← hw]; exact (if_neg hok).trans ((if_neg ht).trans ((if_neg hov).trans (if_pos h2)))
  exact ⟨fun _ => ee true 1 (by decide) fun _ va ha ht => Z7 k n va vt hn1 1 (by decide) (z73 k (xT n) va vt (ky h) tx ha ht (by simp) h2), fun h0 => absurd h0 z48⟩
 by_cases h3 : tx.length < 16
 ·obtain rfl : w = (4, SYZ, []) := by rw [← hw]; exact (if_neg hok).trans ((if_neg ht).trans ((if_neg hov).trans ((if_neg h2).trans (if_pos h3))))
  exact ⟨fun _ => ee true 4 (by decide) fun _ va ha ht => Z7 k n va vt hn1 4 (by decide) (z6K k (xT n) va vt (ky h) tx ha ht (by simp) h3), fun h0 => absurd h0 z4j⟩
 by_cases ho : XO k (xT n) (ky h) tx
 ·obtain rfl : w = (0, (true, k, n + 1, ch, hx h tx), XD k (xT n) tx) := by rw [← hw]; exact (if_neg hok).trans ((if_neg ht).trans ((if_neg hov).trans ((if_neg h2).trans ((if_neg h3).trans (if_pos ho)))))
  exact ⟨fun h0 => absurd rfl h0, fun _ => (z3m (G := G) true k n ch h vt tx (XD k (xT n) tx) hv2 htb (by omega) (by rw [vU]; omega) hh true k (n + 1) (fun G2 va ha ht => z3r true k n va vt true k (n + 1) _ (by rw [vU]; simp only [maxLen]; omega) (z2f k n va vt hn1 _ (by rw [vU]; simp only [maxLen]; omega) (zdr k (xT n) va vt (ky h) tx hk (z4c n) ha ht (ZE hh) htb (by simp) (by omega) (by omega) ho)))).wide (in1 hO)⟩
 ·obtain rfl : w = (10, SYZ, []) := by rw [← hw]; exact (if_neg hok).trans ((if_neg ht).trans ((if_neg hov).trans ((if_neg h2).trans ((if_neg h3).trans (if_neg ho)))))
  exact ⟨fun _ => ee true 10 (by decide) fun _ va ha ht => Z7 k n va vt hn1 10 (by decide) (z7I k (xT n) va vt (ky h) tx hk (z4c n) ha ht (ZE hh) htb (by simp) (by omega) (by omega) ho), fun h0 => absurd h0 zlw⟩
theorem VK (hO : DOR ∈ G) (b : LN) (l : Bool) (vp v0 v1 vt : Value) (fi : Bool) (tn : Int) (dd : Bool) (y : SY) (r : RS) (ow : NN) (vk : Value) (us : Int) (h1 : xn vp v0 v1 vt vk) (hy : okY y) (vx : Value) (tx : LN) (hvt : Sh G vx tx) (htb : By tx) (w : Nat × SY × LN) (hw : xj y tx = w) (he : w.1 ≠ 0) : Fp G 68 #[.agg (shC b l vp v0 v1 vt fi tn dd y ow r vk us), vx] (.tuple #[.agg (shC b l vp v0 v1 vt fi tn dd w.2.1 ow r vk us), zV, ii w.1]) := by
 refine Qf3 Tryz.func68 ?_
 refine (g4)<|(Qh 0) fun r1=>(QH 1) fun r2=>(g7)<|(g4)<|(Qf 9)<|(QlK 0 9 5) ?_
 refine (Av (SVy y))<|(Qm) ?_
 refine (Ca ((zgd hO y hy vx tx hvt htb w hw).1 he))<|(ge)<|(Qx)<|(QH 2) fun r3=>(QW 2)<|(g7)<|(g4)<|(QD 2)<|(Qf 9)<|(QtK 0 9 5) ?_
 refine xQ (c' := shC b l vp v0 v1 vt fi tn dd w.2.1 ow r vk us) rfl ?_
 refine Qn<|(gf)<|(ga) ?_
 refine z7 (i := 1) (Uz 37) rfl rfl (z3 _ _) (za ⟨fun _ => rfl, fun _ => rfl, fun _ => h1.1, fun _ => h1.2.1, fun _ => h1.2.2.1, fun _ => h1.2.2.2.1, fun _ => rfl, fun _ => rfl, fun _ => rfl, fun _ => rfl, fun _ => rfl, fun _ => rfl, fun _ => rfl, fun _ => rfl, fun _ => rfl, fun _ => rfl, fun _ => rfl, fun _ => rfl, fun _ => rfl, fun _ => rfl, fun _ => rfl, fun _ => h1.2.2.2.2, fun _ => rfl, trivial⟩) rfl z8 (.inl rfl) ?_
 refine (gr) ?_
 exact ⟨_, _, _, rfl, yb 1, yt, yt⟩
theorem z0B (hO : DOR ∈ G) (b : LN) (l : Bool) (vp v0 v1 vt : Value) (fi : Bool) (tn : Int) (dd : Bool) (y : SY) (r : RS) (ow : NN) (vk : Value) (us : Int) (h1 : xn vp v0 v1 vt vk) (hy : okY y) (vx : Value) (tx : LN) (hvt : Sh G vx tx) (htb : By tx) (w : Nat × SY × LN) (hw : xj y tx = w) (htl : tx.length ≤ 100000) (he : w.1 = 0) : Fq G [] 68 #[.agg (shC b l vp v0 v1 vt fi tn dd y ow r vk us), vx] (fun v l1 nw => l1 = [] ∧ ∃ v', v = .tuple #[.agg (shC b l vp v0 v1 vt fi tn dd w.2.1 ow r vk us), v', ii 0] ∧ OwnS 5 1 v' w.2.2.length (w.2.2.map by8) nw) := by
 have hwl : w.2.2.length ≤ tx.length + 16 := by rw [← hw]; have := ZJ y tx; omega
 refine QfO Tryz.func68 ?_
 refine (g4)<|(Qh 0) fun r1=>(QH 1) fun r2=>(g7)<|Qs<|QR ⟨[], 4, [], none, none⟩<|(Qf 9)<|(QlK 0 9 5) ?_
 refine (Av (SVy y))<|(Qm) ?_
 refine zK 2 (fun v => .tuple #[SVy w.2.1, v, ii 0]) rfl rfl (Un 115) zo ((zgd hO y hy vx tx hvt htb w hw).2 he) (by simp only [maxLen]; omega) (by rw [List.length_map, Nat.mul_one]) rfl rfl fun v1_1 oz1_1 ho1_1 => ?_
 refine (ge)<|(Qx)<|(QH 3) fun r4=>(QW 3)<|(g7)<|(g4)<|(QD 3)<|(Qf 9)<|(QtK 0 9 5) ?_
 refine xQ (c' := shC b l vp v0 v1 vt fi tn dd w.2.1 ow r vk us) rfl ?_
 refine Qn<|(gf)<|(ga) ?_
 refine z7 (i := 1) (Uz 37) rfl rfl (z3 _ _) (za ⟨fun _ => rfl, fun _ => rfl, fun _ => h1.1, fun _ => h1.2.1, fun _ => h1.2.2.1, fun _ => h1.2.2.2.1, fun _ => rfl, fun _ => rfl, fun _ => rfl, fun _ => rfl, fun _ => rfl, fun _ => rfl, fun _ => rfl, fun _ => rfl, fun _ => rfl, fun _ => rfl, fun _ => rfl, fun _ => rfl, fun _ => rfl, fun _ => rfl, fun _ => rfl, fun _ => h1.2.2.2.2, fun _ => rfl, trivial⟩) rfl z8 (.inl rfl) ?_
 refine (gr) ?_
 exact ⟨_, _, _, _, _, 2, rfl, yb 1, yt, yt, ho1_1, rfl⟩
theorem VA (hO : DOR ∈ G) (b : LN) (l : Bool) (vp v0 v1 vt : Value) (fi : Bool) (tn : Int) (dd : Bool) (y : SY) (r : RS) (ow : NN) (vk : Value) (us : Int) (h1 : xn vp v0 v1 vt vk) (hy : okY y) (vx : Value) (tx : LN) (hvt : Sh G vx tx) (htb : By tx) (w : Nat × SY × LN) (hw : yA y tx = w) (he : w.1 ≠ 0) : Fp G 74 #[.agg (shC b l vp v0 v1 vt fi tn dd y ow r vk us), vx] (.tuple #[.agg (shC b l vp v0 v1 vt fi tn dd w.2.1 ow r vk us), zV, ii w.1]) := by
 refine Qf3 Tryz.func74 ?_
 refine (g4)<|(Qh 0) fun r1=>(QH 1) fun r2=>(g7)<|(g4)<|(Qf 9)<|(QlK 0 9 5) ?_
 refine (Av (SVy y))<|(Qm) ?_
 refine (Ca ((zgu hO y hy vx tx hvt htb w hw).1 he))<|(ge)<|(Qx)<|(QH 2) fun r3=>(QW 2)<|(g7)<|(g4)<|(QD 2)<|(Qf 9)<|(QtK 0 9 5) ?_
 refine xQ (c' := shC b l vp v0 v1 vt fi tn dd w.2.1 ow r vk us) rfl ?_
 refine Qn<|(gf)<|(ga) ?_
 refine z7 (i := 1) (Uz 37) rfl rfl (z3 _ _) (za ⟨fun _ => rfl, fun _ => rfl, fun _ => h1.1, fun _ => h1.2.1, fun _ => h1.2.2.1, fun _ => h1.2.2.2.1, fun _ => rfl, fun _ => rfl, fun _ => rfl, fun _ => rfl, fun _ => rfl, fun _ => rfl, fun _ => rfl, fun _ => rfl, fun _ => rfl, fun _ => rfl, fun _ => rfl, fun _ => rfl, fun _ => rfl, fun _ => rfl, fun _ => rfl, fun _ => h1.2.2.2.2, fun _ => rfl, trivial⟩) rfl z8 (.inl rfl) ?_
 refine (gr) ?_
 exact ⟨_, _, _, rfl, yb 1, yt, yt⟩
theorem z1W (hO : DOR ∈ G) (b : LN) (l : Bool) (vp v0 v1 vt : Value) (fi : Bool) (tn : Int) (dd : Bool) (y : SY) (r : RS) (ow : NN) (vk : Value) (us : Int) (h1 : xn vp v0 v1 vt vk) (hy : okY y) (vx : Value) (tx : LN) (hvt : Sh G vx tx) (htb : By tx) (w : Nat × SY × LN) (hw : yA y tx = w) (htl : tx.length ≤ 100000) (he : w.1 = 0) : Fq G [] 74 #[.agg (shC b l vp v0 v1 vt fi tn dd y ow r vk us), vx] (fun v l1 nw => l1 = [] ∧ ∃ v', v = .tuple #[.agg (shC b l vp v0 v1 vt fi tn dd w.2.1 ow r vk us), v', ii 0] ∧ OwnS 5 1 v' w.2.2.length (w.2.2.map by8) nw) := by
 have hwl : w.2.2.length ≤ tx.length + 16 := by rw [← hw]; have := V5 y tx; omega
 refine QfO Tryz.func74 ?_
 refine (g4)<|(Qh 0) fun r1=>(QH 1) fun r2=>(g7)<|Qs<|QR ⟨[], 4, [], none, none⟩<|(Qf 9)<|(QlK 0 9 5) ?_
 refine (Av (SVy y))<|(Qm) ?_
 refine zK 2 (fun v => .tuple #[SVy w.2.1, v, ii 0]) rfl rfl (Un 124) zo ((zgu hO y hy vx tx hvt htb w hw).2 he) (by simp only [maxLen]; omega) (by rw [List.length_map, Nat.mul_one]) rfl rfl fun v1_1 oz1_1 ho1_1 => ?_
 refine (ge)<|(Qx)<|(QH 3) fun r4=>(QW 3)<|(g7)<|(g4)<|(QD 3)<|(Qf 9)<|(QtK 0 9 5) ?_
 refine xQ (c' := shC b l vp v0 v1 vt fi tn dd w.2.1 ow r vk us) rfl ?_
 refine Qn<|(gf)<|(ga) ?_
 refine z7 (i := 1) (Uz 37) rfl rfl (z3 _ _) (za ⟨fun _ => rfl, fun _ => rfl, fun _ => h1.1, fun _ => h1.2.1, fun _ => h1.2.2.1, fun _ => h1.2.2.2.1, fun _ => rfl, fun _ => rfl, fun _ => rfl, fun _ => rfl, fun _ => rfl, fun _ => rfl, fun _ => rfl, fun _ => rfl, fun _ => rfl, fun _ => rfl, fun _ => rfl, fun _ => rfl, fun _ => rfl, fun _ => rfl, fun _ => rfl, fun _ => h1.2.2.2.2, fun _ => rfl, trivial⟩) rfl z8 (.inl rfl) ?_
 refine (gr) ?_
 exact ⟨_, _, _, _, _, 2, rfl, yb 1, yt, yt, ho1_1, rfl⟩
theorem zmu (hO : DOR ∈ G) (b : LN) (l : Bool) (vp v0 v1 vt : Value) (fi : Bool) (tn : Int) (dd : Bool) (y : SY) (r : RS) (ow : NN) (vk : Value) (us : Nat) (ps : List (NN)) (hk : Shows G 32 vk ps.length (psC ps)) (hp : okP ps) (h1 : xn vp v0 v1 vt vk) (hy : okY y) (hr : okR r) (ho : B32 ow) (sc : NN) (hs : B32 sc) : Fq G [] 67 #[.agg (shC b l vp v0 v1 vt fi tn dd y ow r vk ((us : Nat) : Int)), ii 1, .agg (arr .u8 32 sc)] (fun v l1 nw => l1 = [] ∧ ∃ v', v = .tuple #[.agg (shC b l vp v0 v1 vt fi tn dd (zX (npk ps) y (zN sc)) ow (sc, true, r.2.2) vk ((us : Nat) : Int)), v', ii 0] ∧ OwnS 30 1 v' (ky (zN sc)).length ((ky (zN sc)).map by8) nw) := by
 have _u1 := hp
 have _u2 := hr
 have _u3 := ho
 obtain ⟨z, hz⟩ : ∃ z, z = zX (npk ps) y (zN sc) := ⟨_, rfl⟩
 rw [← hz]
 refine QfO Tryz.func67 ?_
 refine (g4)<|(Qh 0) fun r1=>(Qh 1) fun r2=>(QH 2) fun r3=>(gv)<|Qn<|Qb<|(g4)<|(Qc)<|(g3)<|(Qct)<|(gf)<|(Qd 1) ?_
 refine (Ca (z6r hO b l vp v0 v1 vt fi tn dd y r ow vk us sc ps hk h1 hy hs)) ?_
 refine zi (show _ = Value.tuple #[.agg (shC b l vp v0 v1 vt fi tn dd z ow (sc, true, r.2.2) vk ((us : Nat) : Int)), .agg (arr .u8 32 (zN sc))] by rw [hz]) ?_
 refine (ge)<|(QH 3) fun r4=>(QH 4) fun r5=>?_
 refine z7 (i := 3) (Uz 37) rfl rfl (z3 _ _) (za ⟨fun _ => rfl, fun _ => rfl, fun _ => h1.1, fun _ => h1.2.1, fun _ => h1.2.2.1, fun _ => h1.2.2.2.1, fun _ => rfl, fun _ => rfl, fun _ => rfl, fun _ => rfl, fun _ => rfl, fun _ => rfl, fun _ => rfl, fun _ => rfl, fun _ => rfl, fun _ => rfl, fun _ => rfl, fun _ => rfl, fun _ => rfl, fun _ => rfl, fun _ => rfl, fun _ => h1.2.2.2.2, fun _ => rfl, trivial⟩) rfl z8 (.inl rfl) ?_
 refine (Qt 4)<|Qn<|Qs<|(Qq ⟨[r3], 1, [], none, none⟩) ?_
 refine zS (i := 3) (Uu 37) rfl (Uz 37) rfl rfl (z3 _ _) rfl ⟨[2], rfl, rfl, trivial⟩ ?_
 refine (Qsa 0 32) ?_
 refine z7 (i := 2) (Uz 37) rfl rfl (z3 _ _) (za ⟨fun _ => rfl, fun _ => rfl, fun _ => h1.1, fun _ => h1.2.1, fun _ => h1.2.2.1, fun _ => h1.2.2.2.1, fun _ => rfl, fun _ => rfl, fun _ => rfl, fun _ => rfl, fun _ => rfl, fun _ => rfl, fun _ => rfl, fun _ => rfl, fun _ => rfl, fun _ => rfl, fun _ => rfl, fun _ => rfl, fun _ => rfl, fun _ => rfl, fun _ => rfl, fun _ => h1.2.2.2.2, fun _ => rfl, trivial⟩) rfl z8 (.inr (by simp)) ?_
 refine (gr) ?_
 exact ⟨_, _, _, _, _, 4, rfl, yb 2, yt, yt, (zw (YH (l := ky (zN sc)) (z1s _) (by decide) (fun j hj => (zmr hj).symm)) (by simp) rfl), rfl⟩
theorem zcC (hO : DOR ∈ G) (b : LN) (l : Bool) (vp v0 v1 vt : Value) (fi : Bool) (tn : Int) (dd : Bool) (y : SY) (r : RS) (ow : NN) (vk : Value) (us : Nat) (ps : List (NN)) (hk : Shows G 32 vk ps.length (psC ps)) (hp : okP ps) (h1 : xn vp v0 v1 vt vk) (hy : okY y) (hr : okR r) (ho : B32 ow) (sc : NN) (hs : B32 sc) (w : Nat × SY × LN) (hw : xj y (ky (zN ow)) = w) (he : w.1 = 0) : Fq G [] 67 #[.agg (shC b l vp v0 v1 vt fi tn dd y ow r vk ((us : Nat) : Int)), ii 2, .agg (arr .u8 32 sc)] (fun v l1 nw => l1 = [] ∧ ∃ v', v = .tuple #[.agg (shC b l vp v0 v1 vt fi tn dd w.2.1 ow r vk ((us : Nat) : Int)), v', ii 0] ∧ OwnS 5 1 v' w.2.2.length (w.2.2.map by8) nw) := by
 have _u1 := hp
 have _u2 := hr
 have _u3 := hs
 have _u4 := hk
 have hwl : w.2.2.length ≤ 48 := by rw [← hw]; have := ZJ y (ky (zN ow)); rw [z1s] at this; exact this
 refine QfO Tryz.func67 ?_
 refine (g4)<|(Qh 0) fun r1=>(Qh 1) fun r2=>(QH 2) fun r3=>(gv)<|Qn<|Qb<|(g4)<|(Qc)<|(g3)<|(Qcf)<|(g4)<|(Qc)<|(g3)<|(Qct)<|(g4)<|(Qf 107)<|(Qv 14 0) ?_
 refine (Ca (xL ow ho)) ?_
 refine (Av (Value.agg (arr .u8 32 (zN ow))))<|(QH 3) fun r4=>(Qt 3)<|Qn<|Qs<|(Qq ⟨[], 4, [], none, none⟩)<|(QD 0)<|(Qsa 0 32) ?_
 refine zK 4 (fun v => .tuple #[.agg (shC b l vp v0 v1 vt fi tn dd w.2.1 ow r vk ((us : Nat) : Int)), v, ii 0]) rfl rfl (Un 68) (zh zo (zY 3 rfl ⟨[], trivial⟩)) (z0B (G := G ++ [(⟨r4, arr .u8 32 (zN ow), 30⟩ : Blk)]) (List.mem_append_left _ hO) b l vp v0 v1 vt fi tn dd y r ow vk us h1 hy _ (ky (zN ow)) ((xh _ (zN ow) _).mono (fun x h => List.mem_append_right _ h)) (ZE (wo ow)) w hw (by simp) he) (by simp only [maxLen]; omega) (by rw [List.length_map, Nat.mul_one]) rfl rfl fun v3_1 oz3_1 ho3_1 => ?_
 refine (g9)<|(Qx) ?_
 refine z7 (i := 2) (Uz 37) rfl rfl (z3 _ _) (za ⟨fun _ => rfl, fun _ => rfl, fun _ => h1.1, fun _ => h1.2.1, fun _ => h1.2.2.1, fun _ => h1.2.2.2.1, fun _ => rfl, fun _ => rfl, fun _ => rfl, fun _ => rfl, fun _ => rfl, fun _ => rfl, fun _ => rfl, fun _ => rfl, fun _ => rfl, fun _ => rfl, fun _ => rfl, fun _ => rfl, fun _ => rfl, fun _ => rfl, fun _ => rfl, fun _ => h1.2.2.2.2, fun _ => rfl, trivial⟩) rfl z8 (.inl rfl) ?_
 refine (gr) ?_
 exact ⟨_, _, _, _, _, 4, rfl, yb 2, yt, yt, ho3_1, rfl⟩
theorem z8v (hO : DOR ∈ G) (b : LN) (l : Bool) (vp v0 v1 vt : Value) (fi : Bool) (tn : Int) (dd : Bool) (y : SY) (r : RS) (ow : NN) (vk : Value) (us : Nat) (ps : List (NN)) (hk : Shows G 32 vk ps.length (psC ps)) (hp : okP ps) (h1 : xn vp v0 v1 vt vk) (hy : okY y) (hr : okR r) (ho : B32 ow) (sc : NN) (hs : B32 sc) (w : Nat × SY × LN) (hw : xj y (ky (zN ow)) = w) (he : w.1 ≠ 0) : Fp G 67 #[.agg (shC b l vp v0 v1 vt fi tn dd y ow r vk ((us : Nat) : Int)), ii 2, .agg (arr .u8 32 sc)] (.tuple #[.agg (shC b l vp v0 v1 vt fi tn dd w.2.1 ow r vk ((us : Nat) : Int)), zV, ii w.1]) := by
 have _u1 := hp
 have _u2 := hr
 have _u3 := hs
 have _u4 := hk
 refine Qf3 Tryz.func67 ?_
 refine (g4)<|(Qh 0) fun r1=>(Qh 1) fun r2=>(QH 2) fun r3=>(gv)<|Qn<|Qb<|(g4)<|(Qc)<|(g3)<|(Qcf)<|(g4)<|(Qc)<|(g3)<|(Qct)<|(g4)<|(Qf 107)<|(Qv 14 0) ?_
 refine (Ca (xL ow ho)) ?_
 refine (Av (Value.agg (arr .u8 32 (zN ow))))<|(QH 3) fun r4=>(Qt 3)<|Qn<|(gy)<|(QD 0)<|(Qsa 0 32) ?_
 refine zD rfl rfl (Un 68) (zh zo (zY 3 rfl ⟨[], trivial⟩)) (VK (G := G ++ [(⟨r4, arr .u8 32 (zN ow), 30⟩ : Blk)]) (List.mem_append_left _ hO) b l vp v0 v1 vt fi tn dd y r ow vk us h1 hy _ (ky (zN ow)) ((xh _ (zN ow) _).mono (fun x h => List.mem_append_right _ h)) (ZE (wo ow)) w hw he) rfl rfl ?_
 refine (g9)<|(Qx) ?_
 refine z7 (i := 2) (Uz 37) rfl rfl (z3 _ _) (za ⟨fun _ => rfl, fun _ => rfl, fun _ => h1.1, fun _ => h1.2.1, fun _ => h1.2.2.1, fun _ => h1.2.2.2.1, fun _ => rfl, fun _ => rfl, fun _ => rfl, fun _ => rfl, fun _ => rfl, fun _ => rfl, fun _ => rfl, fun _ => rfl, fun _ => rfl, fun _ => rfl, fun _ => rfl, fun _ => rfl, fun _ => rfl, fun _ => rfl, fun _ => rfl, fun _ => h1.2.2.2.2, fun _ => rfl, trivial⟩) rfl z8 (.inl rfl) ?_
 refine (gr) ?_
 exact ⟨_, _, _, rfl, yb 2, yt, yt⟩
theorem zlU (hO : DOR ∈ G) (b : LN) (l : Bool) (vp v0 v1 vt : Value) (fi : Bool) (tn : Int) (dd : Bool) (y : SY) (r : RS) (ow : NN) (vk : Value) (us : Nat) (ps : List (NN)) (hk : Shows G 32 vk ps.length (psC ps)) (hp : okP ps) (h1 : xn vp v0 v1 vt vk) (hy : okY y) (hr : okR r) (ho : B32 ow) (sc : NN) (hs : B32 sc) (t : Nat) (h3 : 3 ≤ t) (h7 : t ≤ 7) (w : Nat × SS) (hw : xe fi ow ps t (y, r, us) = w) : Fp G 67 #[.agg (shC b l vp v0 v1 vt fi tn dd y ow r vk ((us : Nat) : Int)), ii t, .agg (arr .u8 32 sc)] (.tuple #[.agg (shC b l vp v0 v1 vt fi tn dd w.2.1 ow w.2.2.1 vk ((w.2.2.2 : Nat) : Int)), zV, ii w.1]) := by
 have _u1 := hs
 refine Qf3 Tryz.func67 ?_
 refine (g4)<|(Qh 0) fun r1=>(Qh 1) fun r2=>(QH 2) fun r3=>(gv)<|Qn<|Qb<|(g4)<|(Qc)<|(g3) ?_
 refine ze rfl ?_ ?_
 ·intro hc0
  exact absurd (of_decide_eq_true hc0) (by omega)
 ·intro hc0
  refine (g4)<|(Qc)<|(g3) ?_
  refine ze rfl ?_ ?_
  ·intro hc1
   exact absurd (of_decide_eq_true hc1) (by omega)
  ·intro hc1
   refine Qk<|(gf)<|(Qm) ?_
   refine (Ca (z9j hO b l vp v0 v1 vt fi tn dd y r ow vk us ps hk hp h1 hy hr ho t h3 h7 w hw))<|(ge)<|(QH 3) fun r4=>?_
   refine z7 (i := 3) (Uz 37) rfl rfl (z3 _ _) (za ⟨fun _ => rfl, fun _ => rfl, fun _ => h1.1, fun _ => h1.2.1, fun _ => h1.2.2.1, fun _ => h1.2.2.2.1, fun _ => rfl, fun _ => rfl, fun _ => rfl, fun _ => rfl, fun _ => rfl, fun _ => rfl, fun _ => rfl, fun _ => rfl, fun _ => rfl, fun _ => rfl, fun _ => rfl, fun _ => rfl, fun _ => rfl, fun _ => rfl, fun _ => rfl, fun _ => h1.2.2.2.2, fun _ => rfl, trivial⟩) rfl z8 (.inl rfl) ?_
   refine (g3)<|(g4)<|(QD 3)<|(Qm) ?_
   refine z7 (i := 2) (Uz 37) rfl rfl (z3 _ _) (za ⟨fun _ => rfl, fun _ => rfl, fun _ => h1.1, fun _ => h1.2.1, fun _ => h1.2.2.1, fun _ => h1.2.2.2.1, fun _ => rfl, fun _ => rfl, fun _ => rfl, fun _ => rfl, fun _ => rfl, fun _ => rfl, fun _ => rfl, fun _ => rfl, fun _ => rfl, fun _ => rfl, fun _ => rfl, fun _ => rfl, fun _ => rfl, fun _ => rfl, fun _ => rfl, fun _ => h1.2.2.2.2, fun _ => rfl, trivial⟩) rfl z8 (.inl rfl) ?_
   refine (gr) ?_
   exact ⟨_, _, _, rfl, yb 2, yt, yt⟩
theorem zk5 {G : Mem} (hO : DOR ∈ G) (b : LN) (l : Bool) (vp v0 v1 vt : Value) (fi : Bool) (tn : Int) (dd : Bool) (y : SY) (r : RS) (ow : NN) (vk : Value) (us : Nat) (ps : List (NN)) (hk : Shows G 32 vk ps.length (psC ps)) (hp : okP ps) (h1 : xn vp v0 v1 vt vk) (hy : okY y) (hr : okR r) (ho : B32 ow) (sc : NN) (hs : B32 sc) (t : Nat) (h1t : 1 ≤ t) (h7 : t ≤ 7) (w : Nat × SS × LN) (hw : vw fi ow ps sc t (y, r, us) = w) :
  (w.1 = 0 → Fx Tryz.prog G [] 67 #[.agg (shC b l vp v0 v1 vt fi tn dd y ow r vk ((us : Nat) : Int)), ii t, .agg (arr .u8 32 sc)] (fun v l1 nw => l1 = [] ∧ ∃ v', v = .tuple #[.agg (shC b l vp v0 v1 vt fi tn dd w.2.1.1 ow w.2.1.2.1 vk ((w.2.1.2.2 : Nat) : Int)), v', ii 0] ∧ Shows nw 1 v' w.2.2.length (w.2.2.map by8))) ∧ (w.1 ≠ 0 → Fn Tryz.prog G 67 #[.agg (shC b l vp v0 v1 vt fi tn dd y ow r vk ((us : Nat) : Int)), ii t, .agg (arr .u8 32 sc)] (.tuple #[.agg (shC b l vp v0 v1 vt fi tn dd w.2.1.1 ow w.2.1.2.1 vk ((w.2.1.2.2 : Nat) : Int)), zV, ii w.1])) := by
 by_cases t1 : t = 1
 ·subst t1
  obtain rfl : w = (0, (zX (npk ps) y (zN sc), (sc, true, r.2.2), us), ky (zN sc)) := by rw [← hw]; exact zm2
  exact ⟨fun _ => (zmu hO b l vp v0 v1 vt fi tn dd y r ow vk us ps hk hp h1 hy hr ho sc hs).imp fun v l1 nw ⟨h1, v', h2, h3⟩ => ⟨h1, v', h2, h3.shows⟩, fun h => absurd rfl h⟩
 by_cases t2 : t = 2
 ·subst t2
  obtain ⟨z, hz⟩ : ∃ z, xj y (ky (zN ow)) = z := ⟨_, rfl⟩
  obtain rfl : w = (z.1, (z.2.1, r, us), z.2.2) := by rw [← hw]; exact zl5 hz
  exact ⟨fun h => (zcC hO b l vp v0 v1 vt fi tn dd y r ow vk us ps hk hp h1 hy hr ho sc hs z hz h).imp fun v l1 nw ⟨h1, v', h2, h3⟩ => ⟨h1, v', h2, h3.shows⟩, fun h => z8v hO b l vp v0 v1 vt fi tn dd y r ow vk us ps hk hp h1 hy hr ho sc hs z hz h⟩
 obtain ⟨z, hz⟩ : ∃ z, xe fi ow ps t (y, r, us) = z := ⟨_, rfl⟩
 obtain rfl : w = (z.1, z.2, []) := by rw [← hw]; exact zlS (by omega) hz
 have hX := zlU hO b l vp v0 v1 vt fi tn dd y r ow vk us ps hk hp h1 hy hr ho sc hs t (by omega) h7 z hz
 refine ⟨fun h => hX.fx.imp fun v l1 nw ⟨h2, h3, h4⟩ => ⟨h3, zV, ?_, ?_⟩, fun _ => hX⟩
 ·rw [h2]
  have h9 : z.1 = 0 := h
  rw [h9]
 ·rw [h4]; exact wT _ 1
theorem z8k (hO : DOR ∈ G) (b : LN) (l : Bool) (vp v0 v1 vt : Value) (fi : Bool) (tq : Nat) (dd : Bool) (y : SY) (r : RS) (ow : NN) (vk : Value) (us : Nat) (ps : List (NN)) (hk : Shows G 32 vk ps.length (psC ps)) (hp : okP ps) (h1 : xn vp v0 v1 vt vk) (hy : okY y) (hr : okR r) (ho : B32 ow) (sc : NN) (hs : B32 sc) (q : LN) (tvs : List Value) (hvt : Shows G 1 vt tvs.length tvs) (htl : tq < tvs.length) (hq : Shows G 1 (tvs.getD tq undef) q.length ((ci q).map iv)) (hq7 : ∀ x ∈ q, 1 ≤ x ∧ x ≤ 7) (hq6 : q.length ≤ 6) (vx : Value) (tx : LN) (hvt2 : Sh G vx tx) (htb : By tx) (htx : tx.length ≤ 100000) (w : Nat × SS × LN) (hw : wJ fi ow ps sc q (y, r, us) tx = w) : Fq G [] 38 #[.agg (shC b l vp v0 v1 vt fi ((tq : Nat) : Int) dd y ow r vk ((us : Nat) : Int)), .agg (arr .u8 32 sc), vx] (fun v l1 nw => l1 = [] ∧ ∃ v', v = .tuple #[.agg (shC b l vp v0 v1 vt fi ((tq : Nat) : Int) dd w.2.1.1 ow w.2.1.2.1 vk ((w.2.1.2.2 : Nat) : Int)), v', ii w.1] ∧ OwnS 5 1 v' w.2.2.length (w.2.2.map by8) nw) := by
 refine QfO Tryz.func38 ?_
 refine (g4)<|(Qh 0) fun r1=>(Qh 1) fun r2=>(QH 2) fun r3=>(g7)<|(gb)<|(gu)<|(Qf 0)<|(Qf 5)<|(QV 5 0)<|(Qf 7)<|(QV 7 0) ?_
 refine xf hvt (Uu 27) (Uz 25) rfl rfl (by omega) rfl ?_
 refine (QS) ?_
 refine yc hvt zo (Uu 25) rfl rfl (xU (by omega)) rfl ?_
 refine (QC hq)<|(Qm)<|Qn<|Qb ?_
 refine VU [(2, _), (3, _), (4, _), (6, _), (22, _), (23, _)] [(1, _), (2, _)] (fun kk E m fz => ∃ (i : Nat) (y1 : SY) (r1v : RS) (u1 : Nat) (out : List Nat) (w4 : Value) (oz : Option Blk), kk = q.length - i ∧ E = [(9, w4), (24, ii i)] ∧ m = [(0, (some ⟨r1, shC b l vp v0 v1 vt fi ((tq : Nat) : Int) dd y1 ow r1v vk ((u1 : Nat) : Int), 37⟩)), (50, oz), (51, none)] ∧ (i ≤ q.length) ∧ (OwnS 5 1 w4 out.length (out.map by8) (Option.toList oz)) ∧ (okS (y1, r1v, u1)) ∧ (wM fi ow ps sc q (y, r, us) [] = wM fi ow ps sc (q.drop i) (y1, r1v, u1) out) ∧ (out.length ≤ 48 * i)) (k := q.length - 0) (E0 := [(9, zV), (24, ii 0)]) (M0 := [(0, (some ⟨r1, shC b l vp v0 v1 vt fi ((tq : Nat) : Int) dd y ow r vk ((us : Nat) : Int), 37⟩)), (50, none), (51, none)]) (fz := []) ⟨0, y, r, us, [], zV, none, rfl, rfl, rfl, by omega, (ym _ _), ⟨hy, hr⟩, rfl, (by simp)⟩ ⟨rfl, rfl, rfl, rfl, rfl, rfl, rfl, rfl, trivial⟩ ⟨rfl, rfl, rfl, rfl, rfl, trivial⟩ (by repeat (first | exact zq | exact zj _ | apply zg rfl)) ?_
 rintro kk E m fz ⟨i, y1, r1v, u1, out, w4, oz, rfl, rfl, rfl, hf0_0, hf0_1, hf0_2, hf0_3, hf0_4⟩
 simp only [zB, zA]
 refine (gt) ?_
 refine (Qcd) (fun hc0=>?_) fun hc0=>?_
 ·have hc0 : i < q.length := by omega
  refine Qk<|Qs<|Qb<|(g4) ?_
  refine xf hq (Uu 25) (Uz 3) rfl rfl (by omega) rfl ?_
  refine (QS) ?_
  refine yc hq zo (Uu 3) rfl rfl (z0x (by omega)) rfl ?_
  refine (g3) ?_
  have hx9 := zeT hq7 (show i < q.length by omega)
  obtain ⟨z, hz⟩ : ∃ z, vw fi ow ps sc (q.getD i 0) (y1, r1v, u1) = z := ⟨_, rfl⟩
  have hzl : z.2.2.length ≤ 48 := by rw [← hz]; exact z6n
  have hst : z.1 ≠ 0 → w = (z.1, z.2.1, []) := fun he => by rw [← hw]; exact z87 (hf0_3.trans (zc3 (by omega) hz he)) he
  refine (gb)<|(gb)<|Qs ?_
  by_cases he : z.1 = 0
  ·skip
   refine QR ⟨[], 4, [], none, none⟩<|(QD 0)<|(Qm)<|(Qd 1) ?_
   refine yf [(0, _), (1, _), (2, _), (50, _), (51, _)] (by repeat (first | exact zq | exact zj _ | apply zg rfl)) ⟨rfl, rfl, rfl, rfl, rfl, trivial⟩ rfl rfl rfl (Un 67) zo ((zk5 hO b l vp v0 v1 vt fi ((tq : Nat) : Int) dd y1 r1v ow vk u1 ps hk hp h1 hf0_2.1 hf0_2.2 ho sc hs (q.getD i 0) hx9.1 hx9.2 z hz).1 he) (z8q (fun v' => .tuple #[.agg (shC b l vp v0 v1 vt fi ((tq : Nat) : Int) dd z.2.1.1 ow z.2.1.2.1 vk ((z.2.1.2.2 : Nat) : Int)), v', ii 0]) z.2.2) rfl rfl fun v3_1 nw3_1 hD3_1 => ?_
   simp only [zA]
   obtain ⟨v9, rfl, hv9⟩ := hD3_1
   have hv9 := Shows.mono (B' := fz ++ nw3_1) hv9 (fun x hx => List.mem_append_right _ hx)
   refine (ge)<|(Qx) ?_
   refine z7 (i := 0) (Uz 37) rfl rfl (z3 _ _) (za ⟨fun _ => rfl, fun _ => rfl, fun _ => h1.1, fun _ => h1.2.1, fun _ => h1.2.2.1, fun _ => h1.2.2.2.1, fun _ => rfl, fun _ => rfl, fun _ => rfl, fun _ => rfl, fun _ => rfl, fun _ => rfl, fun _ => rfl, fun _ => rfl, fun _ => rfl, fun _ => rfl, fun _ => rfl, fun _ => rfl, fun _ => rfl, fun _ => rfl, fun _ => rfl, fun _ => h1.2.2.2.2, fun _ => rfl, trivial⟩) rfl z8 (.inl rfl) ?_
   refine (gv)<|(QN) ?_
   refine (Ab (decide_eq_false (by decide)))<|(gp)<|Qp<|(ga) ?_
   refine x9 50 hf0_1 hv9 rfl (zR (by repeat (first | exact zq | exact zj _ | apply zg rfl)) rfl) (Uu 22) (Uz 5) (Uy 5) (Ub 5) (by rfl) rfl rfl Yh (by simp only [maxLen]; omega) (by omega) rfl fun v4_2 oz4_2 ho4_2 => ?_
   refine (g3)<|(go) ?_
   refine X9 (E'' := [(9, _), (24, ii (i + 1))]) (M'' := [(0, (some ⟨r1, shC b l vp v0 v1 vt fi ((tq : Nat) : Int) dd _ ow _ vk ((_ : Nat) : Int), 37⟩)), (50, _), (51, none)]) (fz' := (fz ++ nw3_1)) ⟨i + 1, _, _, _, out ++ z.2.2, _, _, rfl, rfl, rfl, by omega, (zw ho4_2 (by rw [List.length_append]) (by rw [List.map_append])), (by rw [← hz]; exact z0s hf0_2 hs), (hf0_3.trans (zcF (by omega) (hz.trans (show z = (0, z.2.1, z.2.2) from Prod.ext he rfl)))), (by rw [List.length_append]; omega)⟩ ⟨rfl, rfl, rfl, rfl, rfl, rfl, rfl, rfl, trivial⟩ ⟨rfl, rfl, rfl, rfl, rfl, trivial⟩ (by repeat (first | exact zq | exact zj _ | apply zg rfl)) (by omega)
  ·skip
   refine Qp<|(QD 0)<|(Qm)<|(Qd 1) ?_
   refine (Ca ((zk5 hO b l vp v0 v1 vt fi ((tq : Nat) : Int) dd y1 r1v ow vk u1 ps hk hp h1 hf0_2.1 hf0_2.2 ho sc hs (q.getD i 0) hx9.1 hx9.2 z hz).2 he))<|(ge)<|(Qx) ?_
   refine z7 (i := 0) (Uz 37) rfl rfl (z3 _ _) (za ⟨fun _ => rfl, fun _ => rfl, fun _ => h1.1, fun _ => h1.2.1, fun _ => h1.2.2.1, fun _ => h1.2.2.2.1, fun _ => rfl, fun _ => rfl, fun _ => rfl, fun _ => rfl, fun _ => rfl, fun _ => rfl, fun _ => rfl, fun _ => rfl, fun _ => rfl, fun _ => rfl, fun _ => rfl, fun _ => rfl, fun _ => rfl, fun _ => rfl, fun _ => rfl, fun _ => h1.2.2.2.2, fun _ => rfl, trivial⟩) rfl z8 (.inl rfl) ?_
   refine (gv)<|(QN)<|(Qat)<|Qn<|(Qct) ?_
   obtain rfl := hst he
   refine (gf)<|(Qm) ?_
   refine z7 (i := 2) (Uz 37) rfl rfl (z3 _ _) (za ⟨fun _ => rfl, fun _ => rfl, fun _ => h1.1, fun _ => h1.2.1, fun _ => h1.2.2.1, fun _ => h1.2.2.2.1, fun _ => rfl, fun _ => rfl, fun _ => rfl, fun _ => rfl, fun _ => rfl, fun _ => rfl, fun _ => rfl, fun _ => rfl, fun _ => rfl, fun _ => rfl, fun _ => rfl, fun _ => rfl, fun _ => rfl, fun _ => rfl, fun _ => rfl, fun _ => h1.2.2.2.2, fun _ => rfl, trivial⟩) rfl z8 (.inl rfl) ?_
   refine (gr) ?_
   exact ⟨_, _, _, _, _, 51, rfl, yb 2, yt, yt, (zw (ym _ _) (by first | rfl | rw [List.length_append]) (by first | rfl | rw [List.map_append])), rfl⟩
 ·have hz0 : i = q.length := by omega
  have hrun := hf0_3.trans (zew hz0)
  obtain ⟨e2, he2⟩ : ∃ e, xj y1 tx = e := ⟨_, rfl⟩
  have hfin : w = (e2.1, (e2.2.1, r1v, u1), out ++ e2.2.2) := by rw [← hw]; exact zca hrun he2
  have hel : e2.2.2.length ≤ tx.length + 16 := by rw [← he2]; exact ZJ y1 tx
  have hen : e2.1 ≠ 0 → e2.2.2 = [] := fun h => by rw [← he2] at h ⊢; exact zam h
  subst hfin
  refine Qe<|Qs ?_
  by_cases h0 : e2.1 = 0
  ·skip
   refine QR ⟨[], 4, [], none, none⟩<|(QD 0)<|(Qm) ?_
   refine zK 3 (fun v => .tuple #[.agg (shC b l vp v0 v1 vt fi ((tq : Nat) : Int) dd e2.2.1 ow r1v vk ((u1 : Nat) : Int)), v, ii 0]) rfl rfl (Un 68) zo (z0B hO b l vp v0 v1 vt fi ((tq : Nat) : Int) dd y1 r1v ow vk ((u1 : Nat) : Int) h1 hf0_2.1 vx tx hvt2 htb e2 he2 htx h0) (by simp only [maxLen]; omega) (by rw [List.length_map, Nat.mul_one]) rfl rfl fun v3_1 oz3_1 ho3_1 => ?_
   refine (ge)<|(Qx) ?_
   refine z7 (i := 0) (Uz 37) rfl rfl (z3 _ _) (za ⟨fun _ => rfl, fun _ => rfl, fun _ => h1.1, fun _ => h1.2.1, fun _ => h1.2.2.1, fun _ => h1.2.2.2.1, fun _ => rfl, fun _ => rfl, fun _ => rfl, fun _ => rfl, fun _ => rfl, fun _ => rfl, fun _ => rfl, fun _ => rfl, fun _ => rfl, fun _ => rfl, fun _ => rfl, fun _ => rfl, fun _ => rfl, fun _ => rfl, fun _ => rfl, fun _ => h1.2.2.2.2, fun _ => rfl, trivial⟩) rfl z8 (.inl rfl) ?_
   refine (g7)<|Qs<|(Qq ⟨[r3], 1, [], (some ([r1] ++ List.map Blk.b (fz))), none⟩) ?_
   refine zS (i := 0) (Uu 37) rfl (Uz 37) rfl rfl (z3 _ _) rfl ⟨[2], ⟨rfl, rfl, trivial⟩, _, rfl, by simp⟩ ?_
   refine (ga) ?_
   refine Xo 50 hf0_1 ho3_1.shows rfl (zjU 3 rfl) (zag (js := [0]) rfl (by repeat (first | exact zq | exact zj _ | apply zg rfl)) ⟨rfl, rfl, trivial⟩) (Uu 22) (Uz 5) (Uy 5) (Ub 5) (by rfl) rfl rfl Yh (by simp only [maxLen]; omega) (by omega) rfl fun v3_2 oz3_2 ho3_2 => ?_
   refine (Qm) ?_
   refine z7 (i := 2) (Uz 37) rfl rfl (z3 _ _) (za ⟨fun _ => rfl, fun _ => rfl, fun _ => h1.1, fun _ => h1.2.1, fun _ => h1.2.2.1, fun _ => h1.2.2.2.1, fun _ => rfl, fun _ => rfl, fun _ => rfl, fun _ => rfl, fun _ => rfl, fun _ => rfl, fun _ => rfl, fun _ => rfl, fun _ => rfl, fun _ => rfl, fun _ => rfl, fun _ => rfl, fun _ => rfl, fun _ => rfl, fun _ => rfl, fun _ => h1.2.2.2.2, fun _ => rfl, trivial⟩) rfl z8 (.inr (by simp)) ?_
   refine (Qa)<|(Qa) ?_
   refine zi (show _ = ii e2.1 by rw [h0]; rfl) ?_
   refine Qn<|Qr ?_
   exact ⟨_, _, _, _, _, 50, rfl, yb 2, yt, yt, (zw ho3_2 (by first | rfl | rw [List.length_append]) (by first | rfl | rw [List.map_append])), rfl⟩
  ·skip
   refine Qp<|(QD 0)<|(Qm) ?_
   refine (Ca (VK hO b l vp v0 v1 vt fi ((tq : Nat) : Int) dd y1 r1v ow vk ((u1 : Nat) : Int) h1 hf0_2.1 vx tx hvt2 htb e2 he2 h0))<|(ge)<|(Qx) ?_
   refine z7 (i := 0) (Uz 37) rfl rfl (z3 _ _) (za ⟨fun _ => rfl, fun _ => rfl, fun _ => h1.1, fun _ => h1.2.1, fun _ => h1.2.2.1, fun _ => h1.2.2.2.1, fun _ => rfl, fun _ => rfl, fun _ => rfl, fun _ => rfl, fun _ => rfl, fun _ => rfl, fun _ => rfl, fun _ => rfl, fun _ => rfl, fun _ => rfl, fun _ => rfl, fun _ => rfl, fun _ => rfl, fun _ => rfl, fun _ => rfl, fun _ => h1.2.2.2.2, fun _ => rfl, trivial⟩) rfl z8 (.inl rfl) ?_
   refine (g7)<|Qs<|(Qq ⟨[r3], 1, [], (some ([r1] ++ List.map Blk.b (fz))), none⟩) ?_
   refine zS (i := 0) (Uu 37) rfl (Uz 37) rfl rfl (z3 _ _) rfl ⟨[2], ⟨rfl, rfl, trivial⟩, _, rfl, by simp⟩ ?_
   refine (ga) ?_
   refine Xo 50 hf0_1 (show Shows [] 1 zV e2.2.2.length (e2.2.2.map by8) by rw [hen h0]; exact wT [] 1) rfl (fun _ h => by cases h) (zag (js := [0]) rfl (by repeat (first | exact zq | exact zj _ | apply zg rfl)) ⟨rfl, rfl, trivial⟩) (Uu 22) (Uz 5) (Uy 5) (Ub 5) (by rfl) rfl rfl Yh (by simp only [maxLen]; omega) (by omega) rfl fun v3_1 oz3_1 ho3_1 => ?_
   refine (Qm) ?_
   refine z7 (i := 2) (Uz 37) rfl rfl (z3 _ _) (za ⟨fun _ => rfl, fun _ => rfl, fun _ => h1.1, fun _ => h1.2.1, fun _ => h1.2.2.1, fun _ => h1.2.2.2.1, fun _ => rfl, fun _ => rfl, fun _ => rfl, fun _ => rfl, fun _ => rfl, fun _ => rfl, fun _ => rfl, fun _ => rfl, fun _ => rfl, fun _ => rfl, fun _ => rfl, fun _ => rfl, fun _ => rfl, fun _ => rfl, fun _ => rfl, fun _ => h1.2.2.2.2, fun _ => rfl, trivial⟩) rfl z8 (.inr (by simp)) ?_
   refine (gr) ?_
   exact ⟨_, _, _, _, _, 50, rfl, yb 2, yt, yt, (zw ho3_1 (by first | rfl | rw [List.length_append]) (by first | rfl | rw [List.map_append])), rfl⟩
theorem z5M (hO : DOR ∈ G) (b : LN) (l : Bool) (vp v0 v1 vt : Value) (fi : Bool) (tn : Int) (dd : Bool) (y : SY) (r : RS) (ow : NN) (vk : Value) (us : Nat) (h1 : xn vp v0 v1 vt vk) (hy : okY y) (vx : Value) (bs : LN) (hvx : Sh G vx bs) (hbb : By bs) (hbl : bs.length ≤ 100000) (kn : Nat) (hkn : kn = yW y) (hs : bs.length < kn) : Fp G 123 #[.agg (shC b l vp v0 v1 vt fi tn dd y ow r vk ((us : Nat) : Int)), vx] (.tuple #[.agg (shC b l vp v0 v1 vt fi tn dd y ow r vk ((us : Nat) : Int)), zV, ii 4]) := by
 have _u1 := hO
 have _u2 := hy
 have _u3 := hbb
 have _u4 := hbl
 refine Qf3 Tryz.func123 ?_
 refine (g4)<|(Qh 0) fun r1=>(QH 1) fun r2=>(g7)<|(gb)<|(gu)<|(Qf 9)<|(Qf 9)<|(Qf 9)<|(QV 9 0)<|Qn ?_
 refine z1k [(0, _), (1, _), (2, _), (4, _), (5, _), (6, _), (10, _), (11, _), (12, _), (13, _)] [(7, ii kn)] [(0, some _), (1, some _)] ⟨rfl, rfl, rfl, rfl, rfl, rfl, rfl, rfl, rfl, rfl, trivial⟩ ⟨rfl, rfl, trivial⟩ ?_ ?_
 ·skip
  refine ze rfl ?_ ?_
  ·intro hc0
   have hc9 := hc0
   refine Qp<|(g3) ?_
   exact ⟨⟨rfl, rfl, rfl, rfl, rfl, rfl, rfl, rfl, rfl, rfl, trivial⟩, ⟨(by first | (rw [WS hkn hc9]; rfl) | (rw [V9 hkn hc9]; rfl)), trivial⟩, ⟨rfl, rfl, trivial⟩⟩
  ·intro hc0
   have hc9 := hc0
   refine Qk ?_
   exact ⟨⟨rfl, rfl, rfl, rfl, rfl, rfl, rfl, rfl, rfl, rfl, trivial⟩, ⟨(by first | (rw [WS hkn hc9]; rfl) | (rw [V9 hkn hc9]; rfl)), trivial⟩, ⟨rfl, rfl, trivial⟩⟩
 ·simp only [zB]
  refine (gc)<|(QC hvx)<|(Qm)<|(Ql)<|Qn ?_
  refine ze rfl ?_ ?_
  ·intro hc1
   refine (gf) ?_
   refine z7 (i := 1) (Uz 37) rfl rfl (z3 _ _) (za ⟨fun _ => rfl, fun _ => rfl, fun _ => h1.1, fun _ => h1.2.1, fun _ => h1.2.2.1, fun _ => h1.2.2.2.1, fun _ => rfl, fun _ => rfl, fun _ => rfl, fun _ => rfl, fun _ => rfl, fun _ => rfl, fun _ => rfl, fun _ => rfl, fun _ => rfl, fun _ => rfl, fun _ => rfl, fun _ => rfl, fun _ => rfl, fun _ => rfl, fun _ => rfl, fun _ => h1.2.2.2.2, fun _ => rfl, trivial⟩) rfl z8 (.inl rfl) ?_
   refine (gr) ?_
   exact ⟨_, _, _, rfl, yb 1, yt, yt⟩
  ·intro hc1
   have hc1 := of_decide_eq_false hc1
   exact absurd hs (by omega)
theorem zcx (hO : DOR ∈ G) (b : LN) (l : Bool) (vp v0 v1 vt : Value) (fi : Bool) (tn : Int) (dd : Bool) (y : SY) (r : RS) (ow : NN) (vk : Value) (us : Nat) (h1 : xn vp v0 v1 vt vk) (hy : okY y) (vx : Value) (bs : LN) (hvx : Sh G vx bs) (hbb : By bs) (hbl : bs.length ≤ 100000) (kn : Nat) (hkn : kn = yW y) (hs : ¬ bs.length < kn) (w : Nat × SY × LN) (hw : yA y (bs.take kn) = w) (he : w.1 ≠ 0) : Fp G 123 #[.agg (shC b l vp v0 v1 vt fi tn dd y ow r vk ((us : Nat) : Int)), vx] (.tuple #[.agg (shC b l vp v0 v1 vt fi tn dd w.2.1 ow r vk ((us : Nat) : Int)), zV, ii w.1]) := by
 have _u1 := hbl
 refine Qf3 Tryz.func123 ?_
 refine (g4)<|(Qh 0) fun r1=>(QH 1) fun r2=>(g7)<|(gb)<|(gu)<|(Qf 9)<|(Qf 9)<|(Qf 9)<|(QV 9 0)<|Qn ?_
 refine z1k [(0, _), (1, _), (2, _), (4, _), (5, _), (6, _), (10, _), (11, _), (12, _), (13, _)] [(7, ii kn)] [(0, some _), (1, some _)] ⟨rfl, rfl, rfl, rfl, rfl, rfl, rfl, rfl, rfl, rfl, trivial⟩ ⟨rfl, rfl, trivial⟩ ?_ ?_
 ·skip
  refine ze rfl ?_ ?_
  ·intro hc0
   have hc9 := hc0
   refine Qp<|(g3) ?_
   exact ⟨⟨rfl, rfl, rfl, rfl, rfl, rfl, rfl, rfl, rfl, rfl, trivial⟩, ⟨(by first | (rw [WS hkn hc9]; rfl) | (rw [V9 hkn hc9]; rfl)), trivial⟩, ⟨rfl, rfl, trivial⟩⟩
  ·intro hc0
   have hc9 := hc0
   refine Qk ?_
   exact ⟨⟨rfl, rfl, rfl, rfl, rfl, rfl, rfl, rfl, rfl, rfl, trivial⟩, ⟨(by first | (rw [WS hkn hc9]; rfl) | (rw [V9 hkn hc9]; rfl)), trivial⟩, ⟨rfl, rfl, trivial⟩⟩
 ·simp only [zB]
  refine (gc)<|(QC hvx)<|(Qm)<|(Ql)<|Qn ?_
  refine ze rfl ?_ ?_
  ·intro hc1
   have hc1 := of_decide_eq_true hc1
   exact absurd hs (by omega)
  ·intro hc1
   refine Qk<|(gy)<|(QD 0)<|(ga) ?_
   refine xb 0 kn hvx (Uu 22) (Uz 5) rfl rfl rfl rfl ⟨_, rfl⟩ (by omega) (by omega) rfl ?_
   refine zC rfl (Un 74) (VA hO b l vp v0 v1 vt fi tn dd y r ow vk us h1 hy _ (bs.take kn) (Y0 kn hvx (by omega)) (fun x hx => hbb x (List.mem_of_mem_take hx)) w hw he) rfl rfl ?_
   refine (ge)<|(Qx) ?_
   refine z7 (i := 0) (Uz 37) rfl rfl (z3 _ _) (za ⟨fun _ => rfl, fun _ => rfl, fun _ => h1.1, fun _ => h1.2.1, fun _ => h1.2.2.1, fun _ => h1.2.2.2.1, fun _ => rfl, fun _ => rfl, fun _ => rfl, fun _ => rfl, fun _ => rfl, fun _ => rfl, fun _ => rfl, fun _ => rfl, fun _ => rfl, fun _ => rfl, fun _ => rfl, fun _ => rfl, fun _ => rfl, fun _ => rfl, fun _ => rfl, fun _ => h1.2.2.2.2, fun _ => rfl, trivial⟩) rfl z8 (.inl rfl) ?_
   refine (gv)<|(QN)<|(Qat)<|Qn<|(Qct)<|(gf)<|(Qm) ?_
   refine z7 (i := 1) (Uz 37) rfl rfl (z3 _ _) (za ⟨fun _ => rfl, fun _ => rfl, fun _ => h1.1, fun _ => h1.2.1, fun _ => h1.2.2.1, fun _ => h1.2.2.2.1, fun _ => rfl, fun _ => rfl, fun _ => rfl, fun _ => rfl, fun _ => rfl, fun _ => rfl, fun _ => rfl, fun _ => rfl, fun _ => rfl, fun _ => rfl, fun _ => rfl, fun _ => rfl, fun _ => rfl, fun _ => rfl, fun _ => rfl, fun _ => h1.2.2.2.2, fun _ => rfl, trivial⟩) rfl z8 (.inl rfl) ?_
   refine (gr) ?_
   exact ⟨_, _, _, rfl, yb 1, yt, yt⟩
theorem zg8 (hO : DOR ∈ G) (b : LN) (l : Bool) (vp v0 v1 vt : Value) (fi : Bool) (tn : Int) (dd : Bool) (y : SY) (r : RS) (ow : NN) (vk : Value) (us : Nat) (h1 : xn vp v0 v1 vt vk) (hy : okY y) (vx : Value) (bs : LN) (hvx : Sh G vx bs) (hbb : By bs) (hbl : bs.length ≤ 100000) (kn : Nat) (hkn : kn = yW y) (hs : ¬ bs.length < kn) (w : Nat × SY × LN) (hw : yA y (bs.take kn) = w) (he : w.1 = 0) : Fp G 123 #[.agg (shC b l vp v0 v1 vt fi tn dd y ow r vk ((us : Nat) : Int)), vx] (.tuple #[.agg (shC b l vp v0 v1 vt fi tn dd w.2.1 ow (r.1, r.2.1, (fun j => w.2.2.getD j 0), true, r.2.2.2.2) vk ((us : Nat) : Int)), yU 1 vx kn bs.length, ii 0]) := by
 have hw32 : w.2.2.length = 32 := by rw [← hw, hkn]; exact zbK (by rw [← hkn]; omega) (by rw [← hkn, hw]; exact he)
 refine Qf3 Tryz.func123 ?_
 refine (g4)<|(Qh 0) fun r1=>(QH 1) fun r2=>(g7)<|(gb)<|(gu)<|(Qf 9)<|(Qf 9)<|(Qf 9)<|(QV 9 0)<|Qn ?_
 refine z1k [(0, _), (1, _), (2, _), (4, _), (5, _), (6, _), (10, _), (11, _), (12, _), (13, _)] [(7, ii kn)] [(0, some _), (1, some _)] ⟨rfl, rfl, rfl, rfl, rfl, rfl, rfl, rfl, rfl, rfl, trivial⟩ ⟨rfl, rfl, trivial⟩ ?_ ?_
 ·skip
  refine ze rfl ?_ ?_
  ·intro hc0
   have hc9 := hc0
   refine Qp<|(g3) ?_
   exact ⟨⟨rfl, rfl, rfl, rfl, rfl, rfl, rfl, rfl, rfl, rfl, trivial⟩, ⟨(by first | (rw [WS hkn hc9]; rfl) | (rw [V9 hkn hc9]; rfl)), trivial⟩, ⟨rfl, rfl, trivial⟩⟩
  ·intro hc0
   have hc9 := hc0
   refine Qk ?_
   exact ⟨⟨rfl, rfl, rfl, rfl, rfl, rfl, rfl, rfl, rfl, rfl, trivial⟩, ⟨(by first | (rw [WS hkn hc9]; rfl) | (rw [V9 hkn hc9]; rfl)), trivial⟩, ⟨rfl, rfl, trivial⟩⟩
 ·simp only [zB]
  refine (gc)<|(QC hvx)<|(Qm)<|(Ql)<|Qn ?_
  refine ze rfl ?_ ?_
  ·intro hc1
   have hc1 := of_decide_eq_true hc1
   exact absurd hs (by omega)
  ·intro hc1
   refine Qk<|Qs<|(Qq ⟨[], 4, [], none, none⟩)<|(QD 0)<|(ga) ?_
   refine xb 0 kn hvx (Uu 22) (Uz 5) rfl rfl rfl rfl ⟨_, rfl⟩ (by omega) (by omega) rfl ?_
   refine zK 2 (fun v => .tuple #[.agg (shC b l vp v0 v1 vt fi tn dd w.2.1 ow r vk ((us : Nat) : Int)), v, ii 0]) rfl rfl (Un 74) zo (z1W hO b l vp v0 v1 vt fi tn dd y r ow vk us h1 hy _ (bs.take kn) (Y0 kn hvx (by omega)) (fun x hx => hbb x (List.mem_of_mem_take hx)) w hw (by rw [List.length_take]; omega) he) (by simp only [maxLen]; omega) (by rw [List.length_map, Nat.mul_one]) rfl rfl fun v3_1 oz3_1 ho3_1 => ?_
   refine (ge)<|(Qx) ?_
   refine z7 (i := 0) (Uz 37) rfl rfl (z3 _ _) (za ⟨fun _ => rfl, fun _ => rfl, fun _ => h1.1, fun _ => h1.2.1, fun _ => h1.2.2.1, fun _ => h1.2.2.2.1, fun _ => rfl, fun _ => rfl, fun _ => rfl, fun _ => rfl, fun _ => rfl, fun _ => rfl, fun _ => rfl, fun _ => rfl, fun _ => rfl, fun _ => rfl, fun _ => rfl, fun _ => rfl, fun _ => rfl, fun _ => rfl, fun _ => rfl, fun _ => h1.2.2.2.2, fun _ => rfl, trivial⟩) rfl z8 (.inl rfl) ?_
   refine (gv)<|(QN) ?_
   refine (Ab (decide_eq_false (by decide)))<|(gp)<|(g5) ?_
   refine Wr ho3_1.shows (Uu 30) rfl (by decide) (by omega) rfl ?_
   refine YN ho3_1.shows (xF 2 rfl ⟨[], trivial⟩) (Uu 30) rfl (Uz 30) rfl (by decide) (by rw [List.length_map]; omega) rfl rfl ?_
   refine zi (congrArg Value.agg (z3n (by omega))) ?_
   refine (Qf 172)<|(QtC 0 17)<|(Qf 204)<|(QtV 0 18) ?_
   refine xQ (c' := shC b l vp v0 v1 vt fi tn dd w.2.1 ow (r.1, r.2.1, (fun j => w.2.2.getD j 0), true, r.2.2.2.2) vk ((us : Nat) : Int)) rfl ?_
   refine Qn<|Qs<|(Qq ⟨[r2], 1, [], none, none⟩) ?_
   refine zS (i := 0) (Uu 37) rfl (Uz 37) rfl rfl (z3 _ _) rfl ⟨[1], rfl, rfl, trivial⟩ ?_
   refine (ga) ?_
   refine xb kn bs.length hvx (Uu 22) (Uz 5) rfl rfl rfl ⟨_, rfl⟩ rfl (by omega) (by omega) rfl ?_
   refine z7 (i := 1) (Uz 37) rfl rfl (z3 _ _) (za ⟨fun _ => rfl, fun _ => rfl, fun _ => h1.1, fun _ => h1.2.1, fun _ => h1.2.2.1, fun _ => h1.2.2.2.1, fun _ => rfl, fun _ => rfl, fun _ => rfl, fun _ => rfl, fun _ => rfl, fun _ => rfl, fun _ => rfl, fun _ => rfl, fun _ => rfl, fun _ => rfl, fun _ => rfl, fun _ => rfl, fun _ => rfl, fun _ => rfl, fun _ => rfl, fun _ => h1.2.2.2.2, fun _ => rfl, trivial⟩) rfl z8 (.inr (by simp)) ?_
   refine (gr) ?_
   exact ⟨_, _, _, rfl, yb 1, yt, yt⟩
theorem zct (hO : DOR ∈ G) (b : LN) (l : Bool) (vp v0 v1 vt : Value) (fi : Bool) (tn : Int) (dd : Bool) (y : SY) (r : RS) (ow : NN) (vk : Value) (us : Nat) (ps : List (NN)) (hk : Shows G 32 vk ps.length (psC ps)) (hp : okP ps) (h1 : xn vp v0 v1 vt vk) (hy : okY y) (hr : okR r) (ho : B32 ow) (vx : Value) (bs : LN) (hvx : Sh G vx bs) (hbb : By bs) (hbl : bs.length ≤ 100000) (hs : bs.length < 32) : Fp G 73 #[.agg (shC b l vp v0 v1 vt fi tn dd y ow r vk ((us : Nat) : Int)), ii 1, vx] (.tuple #[.agg (shC b l vp v0 v1 vt fi tn dd y ow r vk ((us : Nat) : Int)), zV, ii 4]) := by
 have _u1 := hp
 have _u2 := hr
 have _u3 := ho
 have _u4 := hk
 have _u5 := hy
 have _u6 := hbb
 have _u7 := hO
 have _u8 := hbl
 refine Qf3 Tryz.func73 ?_
 refine (g4)<|(Qh 0) fun r1=>(QH 1) fun r2=>(gv)<|Qn<|Qb<|(g4)<|(Qc)<|(g3)<|(Qct)<|(gc)<|(QC hvx)<|(Ql)<|Qn ?_
 refine ze rfl ?_ ?_
 ·intro hc1
  refine (gf) ?_
  refine z7 (i := 1) (Uz 37) rfl rfl (z3 _ _) (za ⟨fun _ => rfl, fun _ => rfl, fun _ => h1.1, fun _ => h1.2.1, fun _ => h1.2.2.1, fun _ => h1.2.2.2.1, fun _ => rfl, fun _ => rfl, fun _ => rfl, fun _ => rfl, fun _ => rfl, fun _ => rfl, fun _ => rfl, fun _ => rfl, fun _ => rfl, fun _ => rfl, fun _ => rfl, fun _ => rfl, fun _ => rfl, fun _ => rfl, fun _ => rfl, fun _ => h1.2.2.2.2, fun _ => rfl, trivial⟩) rfl z8 (.inl rfl) ?_
  refine (gr) ?_
  exact ⟨_, _, _, rfl, yb 1, yt, yt⟩
 ·intro hc1
  have hc1 := of_decide_eq_false hc1
  exact absurd hs (by omega)
theorem zmj (hO : DOR ∈ G) (b : LN) (l : Bool) (vp v0 v1 vt : Value) (fi : Bool) (tn : Int) (dd : Bool) (y : SY) (r : RS) (ow : NN) (vk : Value) (us : Nat) (ps : List (NN)) (hk : Shows G 32 vk ps.length (psC ps)) (hp : okP ps) (h1 : xn vp v0 v1 vt vk) (hy : okY y) (hr : okR r) (ho : B32 ow) (vx : Value) (bs : LN) (hvx : Sh G vx bs) (hbb : By bs) (hbl : bs.length ≤ 100000) (hs : ¬ bs.length < 32) : Fp G 73 #[.agg (shC b l vp v0 v1 vt fi tn dd y ow r vk ((us : Nat) : Int)), ii 1, vx] (.tuple #[.agg (shC b l vp v0 v1 vt fi tn dd (zX (npk ps) y (fun j => bs.getD j 0)) ow (r.1, r.2.1, r.2.2.1, r.2.2.2.1, (fun j => bs.getD j 0), true) vk ((us : Nat) : Int)), yU 1 vx 32 bs.length, ii 0]) := by
 have _u1 := hp
 have _u2 := hr
 have _u3 := ho
 have _u4 := hk
 have _u5 := hy
 have _u6 := hbb
 have _u7 := hO
 have _u8 := hbl
 obtain ⟨fb, hfb⟩ : ∃ z, z = (fun j => bs.getD j 0) := ⟨_, rfl⟩
 have hfl : B32 fb := by rw [hfb]; exact z1G hbb
 rw [← hfb]
 obtain ⟨z, hz⟩ : ∃ z, z = zX (npk ps) y fb := ⟨_, rfl⟩
 rw [← hz]
 refine Qf3 Tryz.func73 ?_
 refine (g4)<|(Qh 0) fun r1=>(QH 1) fun r2=>(gv)<|Qn<|Qb<|(g4)<|(Qc)<|(g3)<|(Qct)<|(gc)<|(QC hvx)<|(Ql)<|Qn ?_
 refine ze rfl ?_ ?_
 ·intro hc1
  have hc1 := of_decide_eq_true hc1
  exact absurd hs (by omega)
 ·intro hc1
  refine Qk<|Qs<|(Qq ⟨[r2], 1, [], none, none⟩) ?_
  refine zS (i := 0) (Uu 37) rfl (Uz 37) rfl rfl (z3 _ _) rfl ⟨[1], rfl, rfl, trivial⟩ ?_
  refine (Qm) ?_
  refine xb 0 32 hvx (Uu 22) (Uz 5) rfl rfl rfl rfl ⟨_, rfl⟩ (by omega) (by omega) rfl ?_
  refine Wr (Y0 32 hvx (by omega)) (Uu 30) rfl (by decide) (by rw [List.length_take]; omega) rfl ?_
  refine YN (Y0 32 hvx (by omega)) zo (Uu 30) rfl (Uz 30) rfl (by decide) (by simp; omega) rfl rfl ?_
  refine zi (show _ = Value.agg (arr .u8 32 fb) by rw [hfb]; exact congrArg Value.agg (z7y (by omega))) ?_
  refine (Ca (z2R hO b l vp v0 v1 vt fi tn dd y r ow vk us fb ps hk h1 hy hfl)) ?_
  refine zi (show _ = Value.agg (shC b l vp v0 v1 vt fi tn dd z ow (r.1, r.2.1, r.2.2.1, r.2.2.2.1, fb, true) vk ((us : Nat) : Int)) by rw [hz]) ?_
  refine (Qm) ?_
  refine xb 32 bs.length hvx (Uu 22) (Uz 5) rfl rfl rfl ⟨_, rfl⟩ rfl (by omega) (by omega) rfl ?_
  refine z7 (i := 1) (Uz 37) rfl rfl (z3 _ _) (za ⟨fun _ => rfl, fun _ => rfl, fun _ => h1.1, fun _ => h1.2.1, fun _ => h1.2.2.1, fun _ => h1.2.2.2.1, fun _ => rfl, fun _ => rfl, fun _ => rfl, fun _ => rfl, fun _ => rfl, fun _ => rfl, fun _ => rfl, fun _ => rfl, fun _ => rfl, fun _ => rfl, fun _ => rfl, fun _ => rfl, fun _ => rfl, fun _ => rfl, fun _ => rfl, fun _ => h1.2.2.2.2, fun _ => rfl, trivial⟩) rfl z8 (.inr (by simp)) ?_
  refine (gr) ?_
  exact ⟨_, _, _, rfl, yb 1, yt, yt⟩
theorem zbF (hO : DOR ∈ G) (b : LN) (l : Bool) (vp v0 v1 vt : Value) (fi : Bool) (tn : Int) (dd : Bool) (y : SY) (r : RS) (ow : NN) (vk : Value) (us : Nat) (ps : List (NN)) (hk : Shows G 32 vk ps.length (psC ps)) (hp : okP ps) (h1 : xn vp v0 v1 vt vk) (hy : okY y) (hr : okR r) (ho : B32 ow) (vx : Value) (bs : LN) (hvx : Sh G vx bs) (hbb : By bs) (hbl : bs.length ≤ 100000) (hs : bs.length < yW y) : Fp G 73 #[.agg (shC b l vp v0 v1 vt fi tn dd y ow r vk ((us : Nat) : Int)), ii 2, vx] (.tuple #[.agg (shC b l vp v0 v1 vt fi tn dd y ow r vk ((us : Nat) : Int)), zV, ii 4]) := by
 have _u1 := hp
 have _u2 := hr
 have _u3 := ho
 have _u4 := hk
 have _u5 := hy
 have _u6 := hbb
 have _u7 := hO
 have _u8 := hbl
 refine Qf3 Tryz.func73 ?_
 refine (g4)<|(Qh 0) fun r1=>(QH 1) fun r2=>(gv)<|Qn<|Qb<|(g4)<|(Qc)<|(g3)<|(Qcf)<|(g4)<|(Qc)<|(g3)<|(Qct)<|(gf)<|(Qm) ?_
 refine (Ca (z5M hO b l vp v0 v1 vt fi tn dd y r ow vk us h1 hy vx bs hvx hbb hbl (yW y) rfl hs))<|(g9)<|(Qx) ?_
 refine z7 (i := 1) (Uz 37) rfl rfl (z3 _ _) (za ⟨fun _ => rfl, fun _ => rfl, fun _ => h1.1, fun _ => h1.2.1, fun _ => h1.2.2.1, fun _ => h1.2.2.2.1, fun _ => rfl, fun _ => rfl, fun _ => rfl, fun _ => rfl, fun _ => rfl, fun _ => rfl, fun _ => rfl, fun _ => rfl, fun _ => rfl, fun _ => rfl, fun _ => rfl, fun _ => rfl, fun _ => rfl, fun _ => rfl, fun _ => rfl, fun _ => h1.2.2.2.2, fun _ => rfl, trivial⟩) rfl z8 (.inl rfl) ?_
 refine (gr) ?_
 exact ⟨_, _, _, rfl, yb 1, yt, yt⟩
theorem z8b (hO : DOR ∈ G) (b : LN) (l : Bool) (vp v0 v1 vt : Value) (fi : Bool) (tn : Int) (dd : Bool) (y : SY) (r : RS) (ow : NN) (vk : Value) (us : Nat) (ps : List (NN)) (hk : Shows G 32 vk ps.length (psC ps)) (hp : okP ps) (h1 : xn vp v0 v1 vt vk) (hy : okY y) (hr : okR r) (ho : B32 ow) (vx : Value) (bs : LN) (hvx : Sh G vx bs) (hbb : By bs) (hbl : bs.length ≤ 100000) (hs : ¬ bs.length < yW y) (w : Nat × SY × LN) (hw : yA y (bs.take (yW y)) = w) (he : w.1 ≠ 0) : Fp G 73 #[.agg (shC b l vp v0 v1 vt fi tn dd y ow r vk ((us : Nat) : Int)), ii 2, vx] (.tuple #[.agg (shC b l vp v0 v1 vt fi tn dd w.2.1 ow r vk ((us : Nat) : Int)), zV, ii w.1]) := by
 have _u1 := hp
 have _u2 := hr
 have _u3 := ho
 have _u4 := hk
 have _u5 := hy
 have _u6 := hbb
 have _u7 := hO
 have _u8 := hbl
 refine Qf3 Tryz.func73 ?_
 refine (g4)<|(Qh 0) fun r1=>(QH 1) fun r2=>(gv)<|Qn<|Qb<|(g4)<|(Qc)<|(g3)<|(Qcf)<|(g4)<|(Qc)<|(g3)<|(Qct)<|(gf)<|(Qm) ?_
 refine (Ca (zcx hO b l vp v0 v1 vt fi tn dd y r ow vk us h1 hy vx bs hvx hbb hbl (yW y) rfl hs w hw he))<|(g9)<|(Qx) ?_
 refine z7 (i := 1) (Uz 37) rfl rfl (z3 _ _) (za ⟨fun _ => rfl, fun _ => rfl, fun _ => h1.1, fun _ => h1.2.1, fun _ => h1.2.2.1, fun _ => h1.2.2.2.1, fun _ => rfl, fun _ => rfl, fun _ => rfl, fun _ => rfl, fun _ => rfl, fun _ => rfl, fun _ => rfl, fun _ => rfl, fun _ => rfl, fun _ => rfl, fun _ => rfl, fun _ => rfl, fun _ => rfl, fun _ => rfl, fun _ => rfl, fun _ => h1.2.2.2.2, fun _ => rfl, trivial⟩) rfl z8 (.inl rfl) ?_
 refine (gr) ?_
 exact ⟨_, _, _, rfl, yb 1, yt, yt⟩
theorem zlT (hO : DOR ∈ G) (b : LN) (l : Bool) (vp v0 v1 vt : Value) (fi : Bool) (tn : Int) (dd : Bool) (y : SY) (r : RS) (ow : NN) (vk : Value) (us : Nat) (ps : List (NN)) (hk : Shows G 32 vk ps.length (psC ps)) (hp : okP ps) (h1 : xn vp v0 v1 vt vk) (hy : okY y) (hr : okR r) (ho : B32 ow) (vx : Value) (bs : LN) (hvx : Sh G vx bs) (hbb : By bs) (hbl : bs.length ≤ 100000) (hs : ¬ bs.length < yW y) (w : Nat × SY × LN) (hw : yA y (bs.take (yW y)) = w) (he : w.1 = 0) : Fp G 73 #[.agg (shC b l vp v0 v1 vt fi tn dd y ow r vk ((us : Nat) : Int)), ii 2, vx] (.tuple #[.agg (shC b l vp v0 v1 vt fi tn dd w.2.1 ow (r.1, r.2.1, (fun j => w.2.2.getD j 0), true, r.2.2.2.2) vk ((us : Nat) : Int)), yU 1 vx (yW y) bs.length, ii 0]) := by
 have _u1 := hp
 have _u2 := hr
 have _u3 := ho
 have _u4 := hk
 have _u5 := hy
 have _u6 := hbb
 have _u7 := hO
 have _u8 := hbl
 refine Qf3 Tryz.func73 ?_
 refine (g4)<|(Qh 0) fun r1=>(QH 1) fun r2=>(gv)<|Qn<|Qb<|(g4)<|(Qc)<|(g3)<|(Qcf)<|(g4)<|(Qc)<|(g3)<|(Qct)<|(gf)<|(Qm) ?_
 refine (Ca (zg8 hO b l vp v0 v1 vt fi tn dd y r ow vk us h1 hy vx bs hvx hbb hbl (yW y) rfl hs w hw he))<|(g9)<|(Qx) ?_
 refine z7 (i := 1) (Uz 37) rfl rfl (z3 _ _) (za ⟨fun _ => rfl, fun _ => rfl, fun _ => h1.1, fun _ => h1.2.1, fun _ => h1.2.2.1, fun _ => h1.2.2.2.1, fun _ => rfl, fun _ => rfl, fun _ => rfl, fun _ => rfl, fun _ => rfl, fun _ => rfl, fun _ => rfl, fun _ => rfl, fun _ => rfl, fun _ => rfl, fun _ => rfl, fun _ => rfl, fun _ => rfl, fun _ => rfl, fun _ => rfl, fun _ => h1.2.2.2.2, fun _ => rfl, trivial⟩) rfl z8 (.inl rfl) ?_
 refine (gr) ?_
 exact ⟨_, _, _, rfl, yb 1, yt, yt⟩
theorem zm9 (hO : DOR ∈ G) (b : LN) (l : Bool) (vp v0 v1 vt : Value) (fi : Bool) (tn : Int) (dd : Bool) (y : SY) (r : RS) (ow : NN) (vk : Value) (us : Nat) (ps : List (NN)) (hk : Shows G 32 vk ps.length (psC ps)) (hp : okP ps) (h1 : xn vp v0 v1 vt vk) (hy : okY y) (hr : okR r) (ho : B32 ow) (vx : Value) (bs : LN) (hvx : Sh G vx bs) (hbb : By bs) (hbl : bs.length ≤ 100000) (t : Nat) (h3 : 3 ≤ t) (h7 : t ≤ 7) (w : Nat × SS) (hw : xe fi ow ps t (y, r, us) = w) : Fp G 73 #[.agg (shC b l vp v0 v1 vt fi tn dd y ow r vk ((us : Nat) : Int)), ii t, vx] (.tuple #[.agg (shC b l vp v0 v1 vt fi tn dd w.2.1 ow w.2.2.1 vk ((w.2.2.2 : Nat) : Int)), vx, ii w.1]) := by
 have _u1 := hbb
 have _u2 := hvx
 have _u3 := hbl
 refine Qf3 Tryz.func73 ?_
 refine (g4)<|(Qh 0) fun r1=>(QH 1) fun r2=>(gv)<|Qn<|Qb<|(g4)<|(Qc)<|(g3) ?_
 refine ze rfl ?_ ?_
 ·intro hc0
  exact absurd (of_decide_eq_true hc0) (by omega)
 ·intro hc0
  refine (g4)<|(Qc)<|(g3) ?_
  refine ze rfl ?_ ?_
  ·intro hc1
   exact absurd (of_decide_eq_true hc1) (by omega)
  ·intro hc1
   refine Qk<|(gf)<|(Qm) ?_
   refine (Ca (z9j hO b l vp v0 v1 vt fi tn dd y r ow vk us ps hk hp h1 hy hr ho t h3 h7 w hw))<|(ge)<|(QH 2) fun r3=>?_
   refine z7 (i := 2) (Uz 37) rfl rfl (z3 _ _) (za ⟨fun _ => rfl, fun _ => rfl, fun _ => h1.1, fun _ => h1.2.1, fun _ => h1.2.2.1, fun _ => h1.2.2.2.1, fun _ => rfl, fun _ => rfl, fun _ => rfl, fun _ => rfl, fun _ => rfl, fun _ => rfl, fun _ => rfl, fun _ => rfl, fun _ => rfl, fun _ => rfl, fun _ => rfl, fun _ => rfl, fun _ => rfl, fun _ => rfl, fun _ => rfl, fun _ => h1.2.2.2.2, fun _ => rfl, trivial⟩) rfl z8 (.inl rfl) ?_
   refine (g3)<|(g4)<|(QD 2)<|(ga) ?_
   refine z7 (i := 1) (Uz 37) rfl rfl (z3 _ _) (za ⟨fun _ => rfl, fun _ => rfl, fun _ => h1.1, fun _ => h1.2.1, fun _ => h1.2.2.1, fun _ => h1.2.2.2.1, fun _ => rfl, fun _ => rfl, fun _ => rfl, fun _ => rfl, fun _ => rfl, fun _ => rfl, fun _ => rfl, fun _ => rfl, fun _ => rfl, fun _ => rfl, fun _ => rfl, fun _ => rfl, fun _ => rfl, fun _ => rfl, fun _ => rfl, fun _ => h1.2.2.2.2, fun _ => rfl, trivial⟩) rfl z8 (.inl rfl) ?_
   refine (gr) ?_
   exact ⟨_, _, _, rfl, yb 1, yt, yt⟩
theorem zni {G : Mem} (hO : DOR ∈ G) (b : LN) (l : Bool) (vp v0 v1 vt : Value) (fi : Bool) (tn : Int) (dd : Bool) (y : SY) (r : RS) (ow : NN) (vk : Value) (us : Nat) (ps : List (NN)) (hk : Shows G 32 vk ps.length (psC ps)) (hp : okP ps) (h1 : xn vp v0 v1 vt vk) (hy : okY y) (hr : okR r) (ho : B32 ow) (vx : Value) (bs : LN) (hvx : Sh G vx bs) (hbb : By bs) (hbl : bs.length ≤ 100000) (t : Nat) (h1t : 1 ≤ t) (h7 : t ≤ 7) (w : Nat × SS × LN) (hw : v8 fi ow ps t (y, r, us) bs = w) :
  ∃ v', (w.1 = 0 → Shows G 1 v' w.2.2.length (w.2.2.map by8)) ∧ Fn Tryz.prog G 73 #[.agg (shC b l vp v0 v1 vt fi tn dd y ow r vk ((us : Nat) : Int)), ii t, vx] (.tuple #[.agg (shC b l vp v0 v1 vt fi tn dd w.2.1.1 ow w.2.1.2.1 vk ((w.2.1.2.2 : Nat) : Int)), v', ii w.1]) := by
 by_cases t1 : t = 1
 ·subst t1
  by_cases hs : bs.length < 32
  ·obtain rfl : w = (4, (y, r, us), []) := by rw [← hw]; exact zbX hs
   exact ⟨zV, fun h => absurd h z4j, zct hO b l vp v0 v1 vt fi tn dd y r ow vk us ps hk hp h1 hy hr ho vx bs hvx hbb hbl hs⟩
  ·obtain rfl : w = _ := hw.symm.trans (zlq hs)
   exact ⟨yU 1 vx 32 bs.length, fun _ => z14 32 hvx (by omega), zmj hO b l vp v0 v1 vt fi tn dd y r ow vk us ps hk hp h1 hy hr ho vx bs hvx hbb hbl hs⟩
 by_cases t2 : t = 2
 ·subst t2
  by_cases hs : bs.length < yW y
  ·obtain rfl : w = (4, (y, r, us), []) := by rw [← hw]; exact zc6 hs
   exact ⟨zV, fun h => absurd h z4j, zbF hO b l vp v0 v1 vt fi tn dd y r ow vk us ps hk hp h1 hy hr ho vx bs hvx hbb hbl hs⟩
  obtain ⟨z, hz⟩ : ∃ z, yA y (bs.take (yW y)) = z := ⟨_, rfl⟩
  by_cases h0 : z.1 = 0
  ·obtain rfl : w = _ := hw.symm.trans (zms hs hz h0)
   exact ⟨yU 1 vx (yW y) bs.length, fun _ => z14 _ hvx (by omega), zlT hO b l vp v0 v1 vt fi tn dd y r ow vk us ps hk hp h1 hy hr ho vx bs hvx hbb hbl hs z hz h0⟩
  ·obtain rfl : w = _ := hw.symm.trans (z8D hs hz h0)
   exact ⟨zV, fun h => absurd h h0, z8b hO b l vp v0 v1 vt fi tn dd y r ow vk us ps hk hp h1 hy hr ho vx bs hvx hbb hbl hs z hz h0⟩
 obtain ⟨z, hz⟩ : ∃ z, xe fi ow ps t (y, r, us) = z := ⟨_, rfl⟩
 obtain rfl : w = _ := hw.symm.trans (zly (by omega) hz)
 exact ⟨vx, fun _ => hvx, zm9 hO b l vp v0 v1 vt fi tn dd y r ow vk us ps hk hp h1 hy hr ho vx bs hvx hbb hbl t (by omega) h7 z hz⟩
end Go.Proofs.YtacflmjoigffpaaGreatDoor
