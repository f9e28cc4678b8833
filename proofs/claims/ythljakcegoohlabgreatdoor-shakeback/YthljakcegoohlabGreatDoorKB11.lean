import Derived.Test.YthljakcegoohlabGreatDoorKB10
namespace Go.Proofs.YthljakcegoohlabGreatDoor
open Go Go.RowKit
theorem symBothD {G : Mem} (hO : DOR ∈ G) (y : SY) (hy : okY y) (v : Value) (l : List Nat) (hv : Shows G 1 v l.length (l.map by8)) (hb : ∀ b ∈ l, b < 256) (hz : l.length ≤ 1000000) : Fn Tryz.prog G 115 #[SVy y, v] (SVy (mixP y l)) := by
  have h := (dboth9_fn (G := G) y.1 y.2.1 y.2.2.1 y.2.2.2.1 y.2.2.2.2 v l (hv.mono fun _ h => List.mem_cons_of_mem _ h) hb hy.2.2.1 hy.2.2.2 (by omega)).more (in1 hO)
  unfold mixP
  generalize hx y.2.2.2.2 (ky (kB y.2.2.2.1 l)) = fh at h ⊢
  generalize kC y.2.2.2.1 l = fc at h ⊢
  generalize kA y.2.2.2.1 l = fa at h ⊢
  exact h
variable {G : Mem}
set_option maxHeartbeats 400000 in
theorem dlet_fn (t : Nat) : Fn Tryz.prog G 116 #[ii t] (.tuple #[ii (letA t), ii (letB t)]) := by
  refine Qf2 Tryz.func116 ?_
  refine Qs<|Qp<|(Qa)<|(Qa)<|Qn<|Qs<|Qs<|Qp<|(Qm)<|Qn<|Qb<|Qs<|Qp<|(Qc)<|(Qa)<|Qn ?_
  refine e_cond rfl ?_ ?_
  · intro hc0
    obtain rfl : t = 3 := by have := of_decide_eq_true hc0; omega
    refine Qs<|Qp<|(Qa)<|(Qa)<|Qn<|Qr ?_
    first | (rw [show letA t = 2 by unfold letA; rw [if_neg hn0, if_neg hn1], show letB t = 2 by unfold letB; rw [if_neg hn0, if_neg hn1, if_neg hn2]]) | skip
    exact ⟨_, _, rfl, .tmp rfl, .tmp rfl⟩
  · intro hc0
    have hn0 : ¬ t = 3 := by have := of_decide_eq_false hc0; omega
    refine Qs<|Qp<|(Qc)<|(Qa)<|Qn ?_
    refine e_cond rfl ?_ ?_
    · intro hc1
      obtain rfl : t = 4 := by have := of_decide_eq_true hc1; omega
      refine Qs<|Qp<|(Qa)<|(Qa)<|Qn<|Qr ?_
      first | (rw [show letA t = 2 by unfold letA; rw [if_neg hn0, if_neg hn1], show letB t = 2 by unfold letB; rw [if_neg hn0, if_neg hn1, if_neg hn2]]) | skip
      exact ⟨_, _, rfl, .tmp rfl, .tmp rfl⟩
    · intro hc1
      have hn1 : ¬ t = 4 := by have := of_decide_eq_false hc1; omega
      refine Qs<|Qp<|(Qc)<|(Qa)<|Qn ?_
      refine e_cond rfl ?_ ?_
      · intro hc2
        obtain rfl : t = 5 := by have := of_decide_eq_true hc2; omega
        refine Qs<|Qp<|(Qa)<|(Qa)<|Qn<|Qr ?_
        first | (rw [show letA t = 2 by unfold letA; rw [if_neg hn0, if_neg hn1], show letB t = 2 by unfold letB; rw [if_neg hn0, if_neg hn1, if_neg hn2]]) | skip
        exact ⟨_, _, rfl, .tmp rfl, .tmp rfl⟩
      · intro hc2
        have hn2 : ¬ t = 5 := by have := of_decide_eq_false hc2; omega
        refine Qk<|Qs<|Qp<|(Qa)<|(Qa)<|Qn<|Qr ?_
        first | (rw [show letA t = 2 by unfold letA; rw [if_neg hn0, if_neg hn1], show letB t = 2 by unfold letB; rw [if_neg hn0, if_neg hn1, if_neg hn2]]) | skip
        exact ⟨_, _, rfl, .tmp rfl, .tmp rfl⟩
set_option maxHeartbeats 2000000 in
theorem secretOf_fn (b : List Nat) (l : Bool) (vp v0 v1 vt : Value) (fi : Bool) (tn : Int) (dd : Bool) (y : SY) (r : RS) (ow : Nat → Nat) (vk : Value) (us : Int) (x : Nat) : Fn Tryz.prog G 117 #[.agg (shC b l vp v0 v1 vt fi tn dd y ow r vk us), ii x] (.tuple #[.agg (arr .u8 32 (if x = 1 then r.1 else ow)), .bool (if x = 1 then r.2.1 else true)]) := by
  refine Qf2 Tryz.func117 ?_
  refine Qs<|Qp<|(Qh 0) fun r1=>(QH 1) fun r2=>(Qa)<|Qn<|Qs<|Qs<|Qp<|(Qm)<|(Qc)<|Qn ?_
  refine e_cond rfl ?_ ?_
  · intro hc0
    have hx : x = 1 := by have := of_decide_eq_true hc0; omega
    rw [if_pos hx, if_pos hx]
    refine Qs<|(Qq ⟨[r2], 1, [], none⟩)<|(Qf 139) ?_
    refine e_ldC (i := 0) 15 (Uu 28) rfl (Uz 28) rfl rfl rfl (by decide) rfl ⟨[1], rfl, rfl, trivial⟩ ?_
    refine (Qf 171) ?_
    refine e_ldV1 (i := 0) 16 (Uu 4) rfl rfl rfl rfl (by decide) rfl ⟨[1], rfl, rfl, trivial⟩ ?_
    refine e_storeA (i := 1) (Uz 28) rfl rfl (arr_size _ _ _) arr_one rfl (arr_sz _ _ _ _ _) (.inr (by simp)) ?_
    refine (Qa)<|Qn<|Qr ?_
    exact ⟨_, _, rfl, .cell (i := 1) rfl rfl (Uu 28) rfl (Uz 28) (arr_size _ _ _), .tmp rfl⟩
  · intro hc0
    have hx : ¬ x = 1 := by have := of_decide_eq_false hc0; omega
    rw [if_neg hx, if_neg hx]
    refine Qk<|Qs<|Qp<|(Qf 107)<|(Qv 14 0)<|(Qt 1)<|(Qa)<|Qn<|Qr ?_
    exact ⟨_, _, rfl, .cell (i := 1) rfl rfl (Uu 28) rfl (Uz 28) (arr_size _ _ _), .tmp rfl⟩
set_option maxHeartbeats 2000000 in
theorem publicOf_fn (b : List Nat) (l : Bool) (vp v0 v1 vt : Value) (fi : Bool) (tn : Int) (dd : Bool) (y : SY) (r : RS) (ow : Nat → Nat) (vk : Value) (us : Int) (x : Nat) : Fn Tryz.prog G 118 #[.agg (shC b l vp v0 v1 vt fi tn dd y ow r vk us), ii x] (.tuple #[.agg (arr .u8 32 (if x = 1 then r.2.2.2.2.1 else r.2.2.1)), .bool (if x = 1 then r.2.2.2.2.2 else r.2.2.2.1)]) := by
  refine Qf2 Tryz.func118 ?_
  refine Qs<|Qp<|(Qh 0) fun r1=>(QH 1) fun r2=>(Qa)<|Qn<|Qs<|Qs<|Qp<|(Qm)<|(Qc)<|Qn ?_
  refine e_cond rfl ?_ ?_
  · intro hc0
    have hx : x = 1 := by have := of_decide_eq_true hc0; omega
    rw [if_pos hx, if_pos hx]
    refine Qs<|(Qq ⟨[r2], 1, [], none⟩)<|(Qf 205) ?_
    refine e_ldC (i := 0) 19 (Uu 28) rfl (Uz 28) rfl rfl rfl (by decide) rfl ⟨[1], rfl, rfl, trivial⟩ ?_
    refine (Qf 237) ?_
    refine e_ldV1 (i := 0) 20 (Uu 4) rfl rfl rfl rfl (by decide) rfl ⟨[1], rfl, rfl, trivial⟩ ?_
    refine e_storeA (i := 1) (Uz 28) rfl rfl (arr_size _ _ _) arr_one rfl (arr_sz _ _ _ _ _) (.inr (by simp)) ?_
    refine (Qa)<|Qn<|Qr ?_
    exact ⟨_, _, rfl, .cell (i := 1) rfl rfl (Uu 28) rfl (Uz 28) (arr_size _ _ _), .tmp rfl⟩
  · intro hc0
    have hx : ¬ x = 1 := by have := of_decide_eq_false hc0; omega
    rw [if_neg hx, if_neg hx]
    refine Qk<|Qs<|(Qq ⟨[r2], 1, [], none⟩)<|(Qf 172) ?_
    refine e_ldC (i := 0) 17 (Uu 28) rfl (Uz 28) rfl rfl rfl (by decide) rfl ⟨[1], rfl, rfl, trivial⟩ ?_
    refine (Qf 204) ?_
    refine e_ldV1 (i := 0) 18 (Uu 4) rfl rfl rfl rfl (by decide) rfl ⟨[1], rfl, rfl, trivial⟩ ?_
    refine e_storeA (i := 1) (Uz 28) rfl rfl (arr_size _ _ _) arr_one rfl (arr_sz _ _ _ _ _) (.inr (by simp)) ?_
    refine (Qa)<|Qn<|Qr ?_
    exact ⟨_, _, rfl, .cell (i := 1) rfl rfl (Uu 28) rfl (Uz 28) (arr_size _ _ _), .tmp rfl⟩
set_option maxHeartbeats 4000000 in
theorem mixPsk_fn (hO : DOR ∈ G) (b : List Nat) (l : Bool) (vp v0 v1 vt : Value) (fi : Bool) (tn : Int) (dd : Bool) (y : SY) (r : RS) (ow : Nat → Nat) (vk : Value) (us : Nat) (ps : List (Nat → Nat)) (hk : Shows G 32 vk ps.length (psC ps)) (hp : okP ps) (h1 : ones vp v0 v1 vt vk) (hy : okY y) (hr : okR r) (ho : B32 ow) (w : Nat × SS) (hw : bothT fi ow ps 7 (y, r, us) = w) : Fn Tryz.prog G 90 #[.agg (shC b l vp v0 v1 vt fi tn dd y ow r vk ((us : Nat) : Int))] (.tuple #[.agg (shC b l vp v0 v1 vt fi tn dd w.2.1 ow w.2.2.1 vk ((w.2.2.2 : Nat) : Int)), ii w.1]) := by
  have hpl := hp.2
  have _u1 := hr
  have _u2 := ho
  refine Qf2 Tryz.func90 ?_
  refine Qs<|Qp<|(Qh 0) fun r1=>(QH 1) fun r2=>(Qa)<|Qn<|Qs<|Qs<|Qp<|(Qf 239)<|(QV 22 0)<|(Qf 238)<|(QV 21 0)<|(QC hk)<|(QE)<|Qn ?_
  refine e_cond rfl ?_ ?_
  · intro hc0
    have hc0 := of_decide_eq_true hc0
    obtain rfl : w = (5, (y, r, us)) := by rw [← hw]; exact both_psk_no (by omega)
    refine Qs<|Qp<|(QD 0) ?_
    refine e_storeA (i := 1) (Uz 36) rfl rfl (arrv_size _ _) (cells_one ⟨fun _ => rfl, fun _ => rfl, fun _ => h1.1, fun _ => h1.2.1, fun _ => h1.2.2.1, fun _ => h1.2.2.2.1, fun _ => rfl, fun _ => rfl, fun _ => rfl, fun _ => rfl, fun _ => rfl, fun _ => rfl, fun _ => rfl, fun _ => rfl, fun _ => rfl, fun _ => rfl, fun _ => rfl, fun _ => rfl, fun _ => rfl, fun _ => rfl, fun _ => rfl, fun _ => h1.2.2.2.2, fun _ => rfl, trivial⟩) rfl cells_sz (.inl rfl) ?_
    refine (Qa)<|Qn<|Qr ?_
    exact ⟨_, _, rfl, .cell (i := 1) rfl rfl (Uu 36) rfl (Uz 36) (arrv_size _ _), .tmp rfl⟩
  · intro hc0
    have hc0 := of_decide_eq_false hc0
    obtain ⟨y2, hy2⟩ : ∃ y2, y2 = mixP y (ky (pskAt ps us)) := ⟨_, rfl⟩
    obtain rfl : w = (0, y2, r, us + 1) := by rw [← hw, hy2]; exact both_psk (by omega)
    refine Qk<|Qs<|Qp<|(Qf 238)<|(QV 21 0)<|(Qf 239)<|(QV 22 0) ?_
    refine e_atV hk (Uu 34) (Uz 28) rfl rfl (by omega) rfl ?_
    refine e_loadVS hk seenG (Uu 28) rfl (Uz 28) rfl (by decide) (by rw [flatMap_len keyC_len]; omega) (psC_at (by omega)) rfl ?_
    refine e_as (congrArg Value.agg (keyC_arr _)) ?_
    refine (QH 2) fun r3=>(Qt 2)<|Qn<|Qs<|(Qg)<|(Qf 9) ?_
    refine e_ldK (i := 0) 9 5 (Uu 33 rfl) rfl (Uz 33 rfl) rfl rfl rfl rfl (by decide) rfl ⟨[], trivial⟩ ?_
    refine e_as (show _ = SVy y from rfl) ?_
    refine e_sliceA 0 32 (Uu 28) (Uz 5) rfl rfl rfl rfl rfl (by omega) (by omega) (by omega) rfl ?_
    refine e_callS rfl rfl (Un 115) (seen_app seenG (seen1 2 rfl ⟨[], trivial⟩)) (symBothD (G := G ++ [(⟨r3, arr .u8 32 (pskAt ps us), 28⟩ : Blk)]) (List.mem_append_left _ hO) y hy _ (ky (pskAt ps us)) ((shows32 _ (pskAt ps us) _).mono (fun x h => List.mem_append_right _ h)) (ky_lt (pskAt_lt hp (by omega))) (by simp)) rfl rfl ?_
    refine e_as (congrArg SVy hy2.symm) ?_
    refine (Qf 9) ?_
    refine e_stK (i := 0) 9 5 (Uz 33 rfl) rfl rfl ⟨fun _ => rfl, fun _ => rfl, fun _ => rfl, fun _ => rfl, fun _ => rfl, trivial⟩ rfl rfl rfl rfl (by decide) (.inl rfl) ?_
    refine e_blk (c' := shC b l vp v0 v1 vt fi tn dd y2 ow r vk ((us : Nat) : Int)) rfl ?_
    refine Qn<|Qs<|Qp<|(Qf 239)<|(QV 22 0)<|(Q2 1)<|(Qf 239) ?_
    refine e_stV (i := 0) 22 (Uz 3) rfl rfl rfl rfl rfl (by decide) (.inl rfl) ?_
    refine e_blk (c' := shC b l vp v0 v1 vt fi tn dd y2 ow r vk ((us + 1 : Nat) : Int)) rfl ?_
    refine Qn<|Qs<|Qp<|(QD 0) ?_
    refine e_storeA (i := 1) (Uz 36) rfl rfl (arrv_size _ _) (cells_one ⟨fun _ => rfl, fun _ => rfl, fun _ => h1.1, fun _ => h1.2.1, fun _ => h1.2.2.1, fun _ => h1.2.2.2.1, fun _ => rfl, fun _ => rfl, fun _ => rfl, fun _ => rfl, fun _ => rfl, fun _ => rfl, fun _ => rfl, fun _ => rfl, fun _ => rfl, fun _ => rfl, fun _ => rfl, fun _ => rfl, fun _ => rfl, fun _ => rfl, fun _ => rfl, fun _ => h1.2.2.2.2, fun _ => rfl, trivial⟩) rfl cells_sz (.inl rfl) ?_
    refine (Qa)<|Qn<|Qr ?_
    exact ⟨_, _, rfl, .cell (i := 1) rfl rfl (Uu 36) rfl (Uz 36) (arrv_size _ _), .tmp rfl⟩
set_option maxHeartbeats 4000000 in
theorem mixKeys_true (hO : DOR ∈ G) (b : List Nat) (l : Bool) (vp v0 v1 vt : Value) (tn : Int) (dd : Bool) (y : SY) (r : RS) (ow : Nat → Nat) (vk : Value) (us : Nat) (ps : List (Nat → Nat)) (hk : Shows G 32 vk ps.length (psC ps)) (hp : okP ps) (h1 : ones vp v0 v1 vt vk) (hy : okY y) (hr : okR r) (ho : B32 ow) (t : Nat) (h3 : 3 ≤ t) (h6 : t ≤ 6) (w : Nat × SS) (hw : bothT true ow ps t (y, r, us) = w) : Fn Tryz.prog G 91 #[.agg (shC b l vp v0 v1 vt true tn dd y ow r vk ((us : Nat) : Int)), ii t] (.tuple #[.agg (shC b l vp v0 v1 vt true tn dd w.2.1 ow w.2.2.1 vk ((w.2.2.2 : Nat) : Int)), ii w.1]) := by
  have _u1 := hk
  have _u2 := hp
  obtain ⟨fs, hfs⟩ : ∃ z, z = secT true ow r t := ⟨_, rfl⟩
  obtain ⟨fp, hfp⟩ : ∃ z, z = pubT true r t := ⟨_, rfl⟩
  obtain ⟨bs, hbs⟩ : ∃ z, z = hasT true r t := ⟨_, rfl⟩
  obtain ⟨bw, hbw⟩ : ∃ z, z = sawT true r t := ⟨_, rfl⟩
  have hls : B32 fs := by rw [hfs]; exact secT_lt ho hr
  have hlp : B32 fp := by rw [hfp]; exact pubT_lt hr
  obtain ⟨mk, hmk⟩ : ∃ z, z = mulK fs fp := ⟨_, rfl⟩
  have h7 : t ≠ 7 := by omega
  have hN : (bs && bw) = false → w = (5, (y, r, us)) := fun h => by rw [← hw]; exact both_none h7 (by rw [← hbs, ← hbw]; exact h)
  have hZ : ¬ (bs && bw) = false → mk = 0 → w = (12, (y, r, us)) := fun h hz => by rw [← hw]; exact both_zero h7 (by rw [← hbs, ← hbw]; exact h) (by rw [← hfs, ← hfp, ← hmk]; exact hz)
  have hK : ¬ (bs && bw) = false → ¬ mk = 0 → w = (0, keyP y (ky (bt mk)), r, us) := fun h hz => by rw [← hw]; exact (both_ok h7 (by rw [← hbs, ← hbw]; exact h) (by rw [← hfs, ← hfp, ← hmk]; exact hz)).trans (by rw [← hfs, ← hfp, ← hmk])
  refine Qf2 Tryz.func91 ?_
  refine Qs<|Qp<|(Qh 0) fun r1=>(QH 1) fun r2=>(Qa)<|Qn<|Qs<|Qp<|(Qm) ?_
  refine e_call rfl (Un 116) (dlet_fn t) rfl rfl ?_
  refine (Qm)<|(Qx)<|(Qx)<|(Qa)<|(Qa)<|Qn<|Qs<|Qs<|Qp<|(Qf 6)<|(QV 6 0)<|(Q0)<|Qn<|(Qcf)<|Qk<|Qs<|Qp<|(QD 0)<|(Qm) ?_
  refine e_call rfl (Un 117) (secretOf_fn b l vp v0 v1 vt true tn dd y r ow vk us (letA t)) rfl rfl ?_
  refine e_as (show _ = Value.tuple #[.agg (arr .u8 32 fs), .bool bs] by rw [hfs, hbs, ← sec_eq (fi := true) h3 h6, ← has_eq (fi := true) h3 h6]; rfl) ?_
  refine (Qm)<|(Qx)<|(Qx)<|(QH 2) fun r3=>(Qt 2)<|(Qa)<|Qn<|Qs<|Qp<|(QD 0)<|(Qm) ?_
  refine e_call rfl (Un 118) (publicOf_fn b l vp v0 v1 vt true tn dd y r ow vk us (letB t)) rfl rfl ?_
  refine e_as (show _ = Value.tuple #[.agg (arr .u8 32 fp), .bool bw] by rw [hfp, hbw, ← pub_eq (fi := true) h3 h6, ← saw_eq (fi := true) h3 h6]; rfl) ?_
  refine (Qm)<|(Qx)<|(Qx)<|(QH 3) fun r4=>(Qt 3)<|(Qa)<|Qn<|Qs<|Qs<|Qp ?_
  refine e_join [(0, _), (1, _), (2, _), (4, _), (5, _), (6, _), (7, _), (8, _), (9, _), (10, _), (11, _), (14, _), (15, _), (16, _), (17, _), (18, _), (19, _), (20, _), (21, _), (24, _), (25, _), (26, _), (27, _), (28, _), (29, _), (30, _), (31, _), (32, _), (33, _), (34, _), (35, _)] [(41, .bool (!(bs && bw)))] [(0, some _), (1, some _), (2, some _), (3, some _)] ⟨rfl, rfl, rfl, rfl, rfl, rfl, rfl, rfl, rfl, rfl, rfl, rfl, rfl, rfl, rfl, rfl, rfl, rfl, rfl, rfl, rfl, rfl, rfl, rfl, rfl, rfl, rfl, rfl, rfl, rfl, rfl, trivial⟩ ⟨rfl, rfl, rfl, rfl, trivial⟩ ?_ ?_
  · skip
    refine (Qm)<|(Q0)<|(Qm) ?_
    refine e_case (b := (!bs)) (fun hb0 => ?_) (fun hb0 => ?_)
    · skip
      refine (Qo)<|(Qo)<|(QT)<|Qn ?_
      exact ⟨⟨rfl, rfl, rfl, rfl, rfl, rfl, rfl, rfl, rfl, rfl, rfl, rfl, rfl, rfl, rfl, rfl, rfl, rfl, rfl, rfl, rfl, rfl, rfl, rfl, rfl, rfl, rfl, rfl, rfl, rfl, rfl, trivial⟩, ⟨bool_fin (by rw [Bool.not_and, hb0] <;> rfl), trivial⟩, ⟨rfl, rfl, rfl, rfl, trivial⟩⟩
    · skip
      refine (Qy)<|(Qm)<|(Qy)<|(Q0)<|(QF)<|Qn ?_
      exact ⟨⟨rfl, rfl, rfl, rfl, rfl, rfl, rfl, rfl, rfl, rfl, rfl, rfl, rfl, rfl, rfl, rfl, rfl, rfl, rfl, rfl, rfl, rfl, rfl, rfl, rfl, rfl, rfl, rfl, rfl, rfl, rfl, trivial⟩, ⟨bool_fin (by rw [Bool.not_and, hb0] <;> rfl), trivial⟩, ⟨rfl, rfl, rfl, rfl, trivial⟩⟩
  · simp only [catE]
    refine e_cond rfl ?_ ?_
    · intro hc1
      have hn1 : (bs && bw) = false := not_t hc1
      obtain rfl := hN hn1
      refine Qs<|Qp<|(QD 0) ?_
      refine e_storeA (i := 1) (Uz 36) rfl rfl (arrv_size _ _) (cells_one ⟨fun _ => rfl, fun _ => rfl, fun _ => h1.1, fun _ => h1.2.1, fun _ => h1.2.2.1, fun _ => h1.2.2.2.1, fun _ => rfl, fun _ => rfl, fun _ => rfl, fun _ => rfl, fun _ => rfl, fun _ => rfl, fun _ => rfl, fun _ => rfl, fun _ => rfl, fun _ => rfl, fun _ => rfl, fun _ => rfl, fun _ => rfl, fun _ => rfl, fun _ => rfl, fun _ => h1.2.2.2.2, fun _ => rfl, trivial⟩) rfl cells_sz (.inl rfl) ?_
      refine (Qa)<|Qn<|Qr ?_
      exact ⟨_, _, rfl, .cell (i := 1) rfl rfl (Uu 36) rfl (Uz 36) (arrv_size _ _), .tmp rfl⟩
    · intro hc1
      have hn1 : ¬ (bs && bw) = false := not_f hc1
      refine Qk<|Qs<|Qp<|(Qd 2)<|(Qd 3) ?_
      refine e_call rfl (Un 15) (lmult_fn fs fp hls hlp) rfl rfl ?_
      refine e_as (show _ = Value.tuple #[Value.agg (arr .u8 32 (bt mk)), .bool (!decide (mk = 0))] by rw [hmk]; rfl) ?_
      refine (Qm)<|(Qx)<|(Qx)<|(QH 4) fun r5=>(Qt 4)<|(Qa)<|Qn<|Qs<|Qs<|Qp<|(Qm)<|(Q0)<|Qn ?_
      refine e_cond rfl ?_ ?_
      · intro hc2
        have hz1 : mk = 0 := by simpa using hc2
        obtain rfl := hZ hn1 hz1
        refine Qs<|Qp<|(QD 0) ?_
        refine e_storeA (i := 1) (Uz 36) rfl rfl (arrv_size _ _) (cells_one ⟨fun _ => rfl, fun _ => rfl, fun _ => h1.1, fun _ => h1.2.1, fun _ => h1.2.2.1, fun _ => h1.2.2.2.1, fun _ => rfl, fun _ => rfl, fun _ => rfl, fun _ => rfl, fun _ => rfl, fun _ => rfl, fun _ => rfl, fun _ => rfl, fun _ => rfl, fun _ => rfl, fun _ => rfl, fun _ => rfl, fun _ => rfl, fun _ => rfl, fun _ => rfl, fun _ => h1.2.2.2.2, fun _ => rfl, trivial⟩) rfl cells_sz (.inl rfl) ?_
        refine (Qa)<|Qn<|Qr ?_
        exact ⟨_, _, rfl, .cell (i := 1) rfl rfl (Uu 36) rfl (Uz 36) (arrv_size _ _), .tmp rfl⟩
      · intro hc2
        have hz1 : ¬ mk = 0 := by simpa using hc2
        obtain ⟨y2, hy2⟩ : ∃ y2, y2 = keyP y (ky (bt mk)) := ⟨_, rfl⟩
        obtain rfl : w = (0, y2, r, us) := by rw [hy2]; exact hK hn1 hz1
        refine Qk<|Qs<|(Qg)<|(Qf 9) ?_
        refine e_ldK (i := 0) 9 5 (Uu 33 rfl) rfl (Uz 33 rfl) rfl rfl rfl rfl (by decide) rfl ⟨[], trivial⟩ ?_
        refine e_as (show _ = SVy y from rfl) ?_
        refine e_sliceA 0 32 (Uu 28) (Uz 5) rfl rfl rfl rfl rfl (by omega) (by omega) (by omega) rfl ?_
        refine e_callS rfl rfl (Un 106) (seen_app seenG (seen1 4 rfl ⟨[], trivial⟩)) (symKeyD (G := G ++ [(⟨r5, arr .u8 32 (bt mk), 28⟩ : Blk)]) (List.mem_append_left _ hO) y hy _ (ky (bt mk)) ((shows32 _ (bt mk) _).mono (fun x h => List.mem_append_right _ h)) (ky_lt (bt_b mk)) (by simp)) rfl rfl ?_
        refine e_as (congrArg SVy hy2.symm) ?_
        refine (Qf 9) ?_
        refine e_stK (i := 0) 9 5 (Uz 33 rfl) rfl rfl ⟨fun _ => rfl, fun _ => rfl, fun _ => rfl, fun _ => rfl, fun _ => rfl, trivial⟩ rfl rfl rfl rfl (by decide) (.inl rfl) ?_
        refine e_blk (c' := shC b l vp v0 v1 vt true tn dd y2 ow r vk ((us : Nat) : Int)) rfl ?_
        refine Qn<|Qs<|Qp<|(QD 0) ?_
        refine e_storeA (i := 1) (Uz 36) rfl rfl (arrv_size _ _) (cells_one ⟨fun _ => rfl, fun _ => rfl, fun _ => h1.1, fun _ => h1.2.1, fun _ => h1.2.2.1, fun _ => h1.2.2.2.1, fun _ => rfl, fun _ => rfl, fun _ => rfl, fun _ => rfl, fun _ => rfl, fun _ => rfl, fun _ => rfl, fun _ => rfl, fun _ => rfl, fun _ => rfl, fun _ => rfl, fun _ => rfl, fun _ => rfl, fun _ => rfl, fun _ => rfl, fun _ => h1.2.2.2.2, fun _ => rfl, trivial⟩) rfl cells_sz (.inl rfl) ?_
        refine (Qa)<|Qn<|Qr ?_
        exact ⟨_, _, rfl, .cell (i := 1) rfl rfl (Uu 36) rfl (Uz 36) (arrv_size _ _), .tmp rfl⟩
set_option maxHeartbeats 4000000 in
theorem mixKeys_false (hO : DOR ∈ G) (b : List Nat) (l : Bool) (vp v0 v1 vt : Value) (tn : Int) (dd : Bool) (y : SY) (r : RS) (ow : Nat → Nat) (vk : Value) (us : Nat) (ps : List (Nat → Nat)) (hk : Shows G 32 vk ps.length (psC ps)) (hp : okP ps) (h1 : ones vp v0 v1 vt vk) (hy : okY y) (hr : okR r) (ho : B32 ow) (t : Nat) (h3 : 3 ≤ t) (h6 : t ≤ 6) (w : Nat × SS) (hw : bothT false ow ps t (y, r, us) = w) : Fn Tryz.prog G 91 #[.agg (shC b l vp v0 v1 vt false tn dd y ow r vk ((us : Nat) : Int)), ii t] (.tuple #[.agg (shC b l vp v0 v1 vt false tn dd w.2.1 ow w.2.2.1 vk ((w.2.2.2 : Nat) : Int)), ii w.1]) := by
  have _u1 := hk
  have _u2 := hp
  obtain ⟨fs, hfs⟩ : ∃ z, z = secT false ow r t := ⟨_, rfl⟩
  obtain ⟨fp, hfp⟩ : ∃ z, z = pubT false r t := ⟨_, rfl⟩
  obtain ⟨bs, hbs⟩ : ∃ z, z = hasT false r t := ⟨_, rfl⟩
  obtain ⟨bw, hbw⟩ : ∃ z, z = sawT false r t := ⟨_, rfl⟩
  have hls : B32 fs := by rw [hfs]; exact secT_lt ho hr
  have hlp : B32 fp := by rw [hfp]; exact pubT_lt hr
  obtain ⟨mk, hmk⟩ : ∃ z, z = mulK fs fp := ⟨_, rfl⟩
  have h7 : t ≠ 7 := by omega
  have hN : (bs && bw) = false → w = (5, (y, r, us)) := fun h => by rw [← hw]; exact both_none h7 (by rw [← hbs, ← hbw]; exact h)
  have hZ : ¬ (bs && bw) = false → mk = 0 → w = (12, (y, r, us)) := fun h hz => by rw [← hw]; exact both_zero h7 (by rw [← hbs, ← hbw]; exact h) (by rw [← hfs, ← hfp, ← hmk]; exact hz)
  have hK : ¬ (bs && bw) = false → ¬ mk = 0 → w = (0, keyP y (ky (bt mk)), r, us) := fun h hz => by rw [← hw]; exact (both_ok h7 (by rw [← hbs, ← hbw]; exact h) (by rw [← hfs, ← hfp, ← hmk]; exact hz)).trans (by rw [← hfs, ← hfp, ← hmk])
  refine Qf2 Tryz.func91 ?_
  refine Qs<|Qp<|(Qh 0) fun r1=>(QH 1) fun r2=>(Qa)<|Qn<|Qs<|Qp<|(Qm) ?_
  refine e_call rfl (Un 116) (dlet_fn t) rfl rfl ?_
  refine (Qm)<|(Qx)<|(Qx)<|(Qa)<|(Qa)<|Qn<|Qs<|Qs<|Qp<|(Qf 6)<|(QV 6 0)<|(Q0)<|Qn<|(Qct)<|Qp<|(Qm)<|(Qm)<|(Qa)<|(Qa)<|Qn<|Qs<|Qp<|(QD 0)<|(Qm) ?_
  refine e_call rfl (Un 117) (secretOf_fn b l vp v0 v1 vt false tn dd y r ow vk us (letB t)) rfl rfl ?_
  refine e_as (show _ = Value.tuple #[.agg (arr .u8 32 fs), .bool bs] by rw [hfs, hbs, ← sec_eq (fi := false) h3 h6, ← has_eq (fi := false) h3 h6]; rfl) ?_
  refine (Qm)<|(Qx)<|(Qx)<|(QH 2) fun r3=>(Qt 2)<|(Qa)<|Qn<|Qs<|Qp<|(QD 0)<|(Qm) ?_
  refine e_call rfl (Un 118) (publicOf_fn b l vp v0 v1 vt false tn dd y r ow vk us (letA t)) rfl rfl ?_
  refine e_as (show _ = Value.tuple #[.agg (arr .u8 32 fp), .bool bw] by rw [hfp, hbw, ← pub_eq (fi := false) h3 h6, ← saw_eq (fi := false) h3 h6]; rfl) ?_
  refine (Qm)<|(Qx)<|(Qx)<|(QH 3) fun r4=>(Qt 3)<|(Qa)<|Qn<|Qs<|Qs<|Qp ?_
  refine e_join [(0, _), (1, _), (2, _), (4, _), (5, _), (6, _), (7, _), (8, _), (9, _), (10, _), (11, _), (14, _), (15, _), (16, _), (17, _), (18, _), (19, _), (20, _), (21, _), (22, _), (23, _), (24, _), (25, _), (26, _), (27, _), (28, _), (29, _), (30, _), (31, _), (32, _), (33, _), (34, _), (35, _)] [(41, .bool (!(bs && bw)))] [(0, some _), (1, some _), (2, some _), (3, some _)] ⟨rfl, rfl, rfl, rfl, rfl, rfl, rfl, rfl, rfl, rfl, rfl, rfl, rfl, rfl, rfl, rfl, rfl, rfl, rfl, rfl, rfl, rfl, rfl, rfl, rfl, rfl, rfl, rfl, rfl, rfl, rfl, rfl, rfl, trivial⟩ ⟨rfl, rfl, rfl, rfl, trivial⟩ ?_ ?_
  · skip
    refine (Qm)<|(Q0)<|(Qm) ?_
    refine e_case (b := (!bs)) (fun hb0 => ?_) (fun hb0 => ?_)
    · skip
      refine (Qo)<|(Qo)<|(QT)<|Qn ?_
      exact ⟨⟨rfl, rfl, rfl, rfl, rfl, rfl, rfl, rfl, rfl, rfl, rfl, rfl, rfl, rfl, rfl, rfl, rfl, rfl, rfl, rfl, rfl, rfl, rfl, rfl, rfl, rfl, rfl, rfl, rfl, rfl, rfl, rfl, rfl, trivial⟩, ⟨bool_fin (by rw [Bool.not_and, hb0] <;> rfl), trivial⟩, ⟨rfl, rfl, rfl, rfl, trivial⟩⟩
    · skip
      refine (Qy)<|(Qm)<|(Qy)<|(Q0)<|(QF)<|Qn ?_
      exact ⟨⟨rfl, rfl, rfl, rfl, rfl, rfl, rfl, rfl, rfl, rfl, rfl, rfl, rfl, rfl, rfl, rfl, rfl, rfl, rfl, rfl, rfl, rfl, rfl, rfl, rfl, rfl, rfl, rfl, rfl, rfl, rfl, rfl, rfl, trivial⟩, ⟨bool_fin (by rw [Bool.not_and, hb0] <;> rfl), trivial⟩, ⟨rfl, rfl, rfl, rfl, trivial⟩⟩
  · simp only [catE]
    refine e_cond rfl ?_ ?_
    · intro hc1
      have hn1 : (bs && bw) = false := not_t hc1
      obtain rfl := hN hn1
      refine Qs<|Qp<|(QD 0) ?_
      refine e_storeA (i := 1) (Uz 36) rfl rfl (arrv_size _ _) (cells_one ⟨fun _ => rfl, fun _ => rfl, fun _ => h1.1, fun _ => h1.2.1, fun _ => h1.2.2.1, fun _ => h1.2.2.2.1, fun _ => rfl, fun _ => rfl, fun _ => rfl, fun _ => rfl, fun _ => rfl, fun _ => rfl, fun _ => rfl, fun _ => rfl, fun _ => rfl, fun _ => rfl, fun _ => rfl, fun _ => rfl, fun _ => rfl, fun _ => rfl, fun _ => rfl, fun _ => h1.2.2.2.2, fun _ => rfl, trivial⟩) rfl cells_sz (.inl rfl) ?_
      refine (Qa)<|Qn<|Qr ?_
      exact ⟨_, _, rfl, .cell (i := 1) rfl rfl (Uu 36) rfl (Uz 36) (arrv_size _ _), .tmp rfl⟩
    · intro hc1
      have hn1 : ¬ (bs && bw) = false := not_f hc1
      refine Qk<|Qs<|Qp<|(Qd 2)<|(Qd 3) ?_
      refine e_call rfl (Un 15) (lmult_fn fs fp hls hlp) rfl rfl ?_
      refine e_as (show _ = Value.tuple #[Value.agg (arr .u8 32 (bt mk)), .bool (!decide (mk = 0))] by rw [hmk]; rfl) ?_
      refine (Qm)<|(Qx)<|(Qx)<|(QH 4) fun r5=>(Qt 4)<|(Qa)<|Qn<|Qs<|Qs<|Qp<|(Qm)<|(Q0)<|Qn ?_
      refine e_cond rfl ?_ ?_
      · intro hc2
        have hz1 : mk = 0 := by simpa using hc2
        obtain rfl := hZ hn1 hz1
        refine Qs<|Qp<|(QD 0) ?_
        refine e_storeA (i := 1) (Uz 36) rfl rfl (arrv_size _ _) (cells_one ⟨fun _ => rfl, fun _ => rfl, fun _ => h1.1, fun _ => h1.2.1, fun _ => h1.2.2.1, fun _ => h1.2.2.2.1, fun _ => rfl, fun _ => rfl, fun _ => rfl, fun _ => rfl, fun _ => rfl, fun _ => rfl, fun _ => rfl, fun _ => rfl, fun _ => rfl, fun _ => rfl, fun _ => rfl, fun _ => rfl, fun _ => rfl, fun _ => rfl, fun _ => rfl, fun _ => h1.2.2.2.2, fun _ => rfl, trivial⟩) rfl cells_sz (.inl rfl) ?_
        refine (Qa)<|Qn<|Qr ?_
        exact ⟨_, _, rfl, .cell (i := 1) rfl rfl (Uu 36) rfl (Uz 36) (arrv_size _ _), .tmp rfl⟩
      · intro hc2
        have hz1 : ¬ mk = 0 := by simpa using hc2
        obtain ⟨y2, hy2⟩ : ∃ y2, y2 = keyP y (ky (bt mk)) := ⟨_, rfl⟩
        obtain rfl : w = (0, y2, r, us) := by rw [hy2]; exact hK hn1 hz1
        refine Qk<|Qs<|(Qg)<|(Qf 9) ?_
        refine e_ldK (i := 0) 9 5 (Uu 33 rfl) rfl (Uz 33 rfl) rfl rfl rfl rfl (by decide) rfl ⟨[], trivial⟩ ?_
        refine e_as (show _ = SVy y from rfl) ?_
        refine e_sliceA 0 32 (Uu 28) (Uz 5) rfl rfl rfl rfl rfl (by omega) (by omega) (by omega) rfl ?_
        refine e_callS rfl rfl (Un 106) (seen_app seenG (seen1 4 rfl ⟨[], trivial⟩)) (symKeyD (G := G ++ [(⟨r5, arr .u8 32 (bt mk), 28⟩ : Blk)]) (List.mem_append_left _ hO) y hy _ (ky (bt mk)) ((shows32 _ (bt mk) _).mono (fun x h => List.mem_append_right _ h)) (ky_lt (bt_b mk)) (by simp)) rfl rfl ?_
        refine e_as (congrArg SVy hy2.symm) ?_
        refine (Qf 9) ?_
        refine e_stK (i := 0) 9 5 (Uz 33 rfl) rfl rfl ⟨fun _ => rfl, fun _ => rfl, fun _ => rfl, fun _ => rfl, fun _ => rfl, trivial⟩ rfl rfl rfl rfl (by decide) (.inl rfl) ?_
        refine e_blk (c' := shC b l vp v0 v1 vt false tn dd y2 ow r vk ((us : Nat) : Int)) rfl ?_
        refine Qn<|Qs<|Qp<|(QD 0) ?_
        refine e_storeA (i := 1) (Uz 36) rfl rfl (arrv_size _ _) (cells_one ⟨fun _ => rfl, fun _ => rfl, fun _ => h1.1, fun _ => h1.2.1, fun _ => h1.2.2.1, fun _ => h1.2.2.2.1, fun _ => rfl, fun _ => rfl, fun _ => rfl, fun _ => rfl, fun _ => rfl, fun _ => rfl, fun _ => rfl, fun _ => rfl, fun _ => rfl, fun _ => rfl, fun _ => rfl, fun _ => rfl, fun _ => rfl, fun _ => rfl, fun _ => rfl, fun _ => h1.2.2.2.2, fun _ => rfl, trivial⟩) rfl cells_sz (.inl rfl) ?_
        refine (Qa)<|Qn<|Qr ?_
        exact ⟨_, _, rfl, .cell (i := 1) rfl rfl (Uu 36) rfl (Uz 36) (arrv_size _ _), .tmp rfl⟩
end Go.Proofs.YthljakcegoohlabGreatDoor
namespace Go.Proofs.YthljakcegoohlabGreatDoor
open Go Go.RowKit
theorem mixKeys_fn {G : Mem} (hO : DOR ∈ G) (b : List Nat) (l : Bool) (vp v0 v1 vt : Value) (fi : Bool) (tn : Int) (dd : Bool) (y : SY) (r : RS) (ow : Nat → Nat) (vk : Value) (us : Nat) (ps : List (Nat → Nat)) (hk : Shows G 32 vk ps.length (psC ps)) (hp : okP ps) (h1 : ones vp v0 v1 vt vk) (hy : okY y) (hr : okR r) (ho : B32 ow) (t : Nat) (h3 : 3 ≤ t) (h6 : t ≤ 6) (w : Nat × SS) (hw : bothT fi ow ps t (y, r, us) = w) : Fn Tryz.prog G 91 #[.agg (shC b l vp v0 v1 vt fi tn dd y ow r vk ((us : Nat) : Int)), ii t] (.tuple #[.agg (shC b l vp v0 v1 vt fi tn dd w.2.1 ow w.2.2.1 vk ((w.2.2.2 : Nat) : Int)), ii w.1]) := by
  cases fi with
  | true => exact mixKeys_true hO b l vp v0 v1 vt tn dd y r ow vk us ps hk hp h1 hy hr ho t h3 h6 w hw
  | false => exact mixKeys_false hO b l vp v0 v1 vt tn dd y r ow vk us ps hk hp h1 hy hr ho t h3 h6 w hw
variable {G : Mem}
set_option maxHeartbeats 2000000 in
theorem dmix_fn (hO : DOR ∈ G) (b : List Nat) (l : Bool) (vp v0 v1 vt : Value) (fi : Bool) (tn : Int) (dd : Bool) (y : SY) (r : RS) (ow : Nat → Nat) (vk : Value) (us : Nat) (ps : List (Nat → Nat)) (hk : Shows G 32 vk ps.length (psC ps)) (hp : okP ps) (h1 : ones vp v0 v1 vt vk) (hy : okY y) (hr : okR r) (ho : B32 ow) (t : Nat) (h3 : 3 ≤ t) (h7 : t ≤ 7) (w : Nat × SS) (hw : bothT fi ow ps t (y, r, us) = w) : Fn Tryz.prog G 63 #[.agg (shC b l vp v0 v1 vt fi tn dd y ow r vk ((us : Nat) : Int)), ii t] (.tuple #[.agg (shC b l vp v0 v1 vt fi tn dd w.2.1 ow w.2.2.1 vk ((w.2.2.2 : Nat) : Int)), ii w.1]) := by
  refine Qf2 Tryz.func63 ?_
  refine Qs<|Qp<|(Qh 0) fun r1=>(QH 1) fun r2=>(Qa)<|Qn<|Qs<|Qs<|Qp<|(Qm)<|(Qc)<|Qn ?_
  refine e_cond rfl ?_ ?_
  · intro hc0
    obtain rfl : t = 7 := by have := of_decide_eq_true hc0; omega
    refine Qs<|Qp<|(QD 0) ?_
    refine e_call rfl (Un 90) (mixPsk_fn hO b l vp v0 v1 vt fi tn dd y r ow vk us ps hk hp h1 hy hr ho w hw) rfl rfl ?_
    refine (Qx)<|(Qx) ?_
    refine e_storeA (i := 1) (Uz 36) rfl rfl (arrv_size _ _) (cells_one ⟨fun _ => rfl, fun _ => rfl, fun _ => h1.1, fun _ => h1.2.1, fun _ => h1.2.2.1, fun _ => h1.2.2.2.1, fun _ => rfl, fun _ => rfl, fun _ => rfl, fun _ => rfl, fun _ => rfl, fun _ => rfl, fun _ => rfl, fun _ => rfl, fun _ => rfl, fun _ => rfl, fun _ => rfl, fun _ => rfl, fun _ => rfl, fun _ => rfl, fun _ => rfl, fun _ => h1.2.2.2.2, fun _ => rfl, trivial⟩) rfl cells_sz (.inl rfl) ?_
    refine (Qa)<|Qn<|Qr ?_
    exact ⟨_, _, rfl, .cell (i := 1) rfl rfl (Uu 36) rfl (Uz 36) (arrv_size _ _), .tmp rfl⟩
  · intro hc0
    have h9 : ¬ t = 7 := by have := of_decide_eq_false hc0; omega
    refine Qk<|Qs<|Qp<|(QD 0)<|(Qm) ?_
    refine e_call rfl (Un 91) (mixKeys_fn hO b l vp v0 v1 vt fi tn dd y r ow vk us ps hk hp h1 hy hr ho t h3 (by omega) w hw) rfl rfl ?_
    refine (Qx)<|(Qx) ?_
    refine e_storeA (i := 1) (Uz 36) rfl rfl (arrv_size _ _) (cells_one ⟨fun _ => rfl, fun _ => rfl, fun _ => h1.1, fun _ => h1.2.1, fun _ => h1.2.2.1, fun _ => h1.2.2.2.1, fun _ => rfl, fun _ => rfl, fun _ => rfl, fun _ => rfl, fun _ => rfl, fun _ => rfl, fun _ => rfl, fun _ => rfl, fun _ => rfl, fun _ => rfl, fun _ => rfl, fun _ => rfl, fun _ => rfl, fun _ => rfl, fun _ => rfl, fun _ => h1.2.2.2.2, fun _ => rfl, trivial⟩) rfl cells_sz (.inl rfl) ?_
    refine (Qa)<|Qn<|Qr ?_
    exact ⟨_, _, rfl, .cell (i := 1) rfl rfl (Uu 36) rfl (Uz 36) (arrv_size _ _), .tmp rfl⟩
end Go.Proofs.YthljakcegoohlabGreatDoor
namespace Go.Proofs.YthljakcegoohlabGreatDoor
open Go Go.RowKit
theorem dtold_at {G X : Mem} (has : Bool) (k : Nat → Nat) (n : Nat) (ch h : Nat → Nat) (h2 : Bool) (k2 : Nat → Nat) (n2 : Nat) (v : Value) (l : List Nat) (hv : Shows ((DOR :: G) ++ X) 1 v l.length (l.map by8)) (hb : ∀ b ∈ l, b < 256) (hh : ∀ j, j < 32 → h j < 256) (hz : l.length ≤ 1073741792) : Fn Tryz.prog ((DOR :: G) ++ X) 93 #[SV has k n ch h, CV h2 k2 n2, v] (SV h2 k2 n2 ch (hx h l)) := dtold_fn (G := G ++ X) has k n ch h h2 k2 n2 v l hv hb hh hz
variable {G : Mem}
set_option maxHeartbeats 2000000 in
theorem dsSeal_err (has : Bool) (k : Nat → Nat) (n : Nat) (ch h : Nat → Nat) (vt : Value) (tx : List Nat) (hvt : Shows (DOR :: G) 1 vt tx.length (tx.map by8)) (e : Nat) (he : e ≠ 0) (hE : ∀ (G2 : Mem) (va : Value), Shows G2 1 va ((List.range 32).map h).length (((List.range 32).map h).map by8) → Sh G2 vt tx → Fn Tryz.prog G2 92 #[CV has k n, va, vt] (.tuple #[CZ, nilS, ii e])) : Fn Tryz.prog (DOR :: G) 64 #[SV has k n ch h, vt] (.tuple #[(.agg (cells 98 [pV (.bool false), pI .u8 32 (fun _ => 0), pV (.int .u64 0), pI .u8 32 (fun _ => 0), pI .u8 32 (fun _ => 0)])), nilS, ii e]) := by
  refine Qf3 Tryz.func64 ?_
  refine Qs<|Qp<|(Qh 0) fun r1=>(QH 1) fun r2=>(Qa)<|(Qa)<|Qn<|Qs<|(Qg)<|(Qf 0) ?_
  refine e_ldK (i := 0) 0 3 (Uu 31 rfl) rfl (Uz 31 rfl) rfl rfl rfl rfl (by decide) rfl ⟨[], trivial⟩ ?_
  refine e_as (show _ = CV has k n from rfl) ?_
  refine (Qf 66) ?_
  refine e_sliceA 0 32 (Uu 28) (Uz 5) rfl rfl rfl rfl rfl (by omega) (by omega) (by omega) rfl ?_
  refine (Qm) ?_
  refine e_callS rfl rfl (Un 92) (seen_app (seen1 0 rfl ⟨[], trivial⟩) seenG) (hE ([⟨r1, cS has k n ch h, 33⟩] ++ (DOR :: G)) _ ((cells_shows r1 4 33 h rfl (Nat.le_of_ble_eq_true rfl) (Nat.le_of_ble_eq_true rfl)).mono (fun x h => List.mem_append_left _ h)) (hvt.mono (fun x h => List.mem_append_right _ h))) rfl rfl ?_
  refine (Qm)<|(Qx)<|(Qx)<|(Qx)<|(QH 2) fun r3=>?_
  refine e_storeA (i := 2) (Uz 31) rfl rfl (arrv_size _ _) (cells_one ⟨fun _ => rfl, fun _ => rfl, fun _ => rfl, trivial⟩) rfl cells_sz (.inl rfl) ?_
  refine (Qa)<|(Qa)<|Qn<|Qs<|Qs<|Qp<|(Qm)<|(QN)<|(Qat)<|Qn ?_
  refine e_cond rfl ?_ ?_
  · intro hc0
    refine Qs<|Qp ?_
    refine e_buildS (cells 98 [pV (.bool false), pI .u8 32 (fun _ => 0), pV (.int .u64 0), pI .u8 32 (fun _ => 0), pI .u8 32 (fun _ => 0)]) (Ub 33 rfl) (Uu 33 rfl) pls33 rfl (by kernel_rfl) rfl ?_
    refine (Qm) ?_
    refine e_storeA (i := 1) (Uz 33) rfl rfl (arrv_size _ _) (cells_one ⟨fun _ => rfl, fun _ => rfl, fun _ => rfl, fun _ => rfl, fun _ => rfl, trivial⟩) rfl cells_sz (.inl rfl) ?_
    refine (Qa)<|(Qa)<|Qn<|Qr ?_
    exact ⟨_, _, _, rfl, .cell (i := 1) rfl rfl (Uu 33) rfl (Uz 33) (arrv_size _ _), .tmp rfl, .tmp rfl⟩
  · intro hc0
    exact absurd hc0 (by decide)
set_option maxHeartbeats 2000000 in
theorem dsSeal_ok (has : Bool) (k : Nat → Nat) (n : Nat) (ch h : Nat → Nat) (vt : Value) (tx out : List Nat) (hvt : Shows (DOR :: G) 1 vt tx.length (tx.map by8)) (hob : (∀ b ∈ out, b < 256)) (hol : out.length ≤ 1000) (hh : L8 32 h) (h2 : Bool) (k2 : Nat → Nat) (n2 : Nat) (hE : ∀ (G2 : Mem) (va : Value), Shows G2 1 va ((List.range 32).map h).length (((List.range 32).map h).map by8) → Sh G2 vt tx → Fx Tryz.prog G2 [] 92 #[CV has k n, va, vt] (fun v l1 nw => l1 = [] ∧ ∃ v', v = .tuple #[CV h2 k2 n2, v', ii 0] ∧ OwnS 5 1 v' out.length (out.map by8) nw)) : Fx Tryz.prog (DOR :: G) [] 64 #[SV has k n ch h, vt] (fun v l1 nw => l1 = [] ∧ ∃ v', v = .tuple #[SV h2 k2 n2 ch (hx h out), v', ii 0] ∧ OwnS 5 1 v' out.length (out.map by8) nw) := by
  refine QfO Tryz.func64 ?_
  refine Qs<|Qp<|(Qh 0) fun r1=>(QH 1) fun r2=>(Qa)<|(Qa)<|Qn<|Qs<|(Qq ⟨[], 4, [], none⟩)<|(Qf 0) ?_
  refine e_ldK (i := 0) 0 3 (Uu 31 rfl) rfl (Uz 31 rfl) rfl rfl rfl rfl (by decide) rfl ⟨[], trivial⟩ ?_
  refine e_as (show _ = CV has k n from rfl) ?_
  refine (Qf 66) ?_
  refine e_sliceA 0 32 (Uu 28) (Uz 5) rfl rfl rfl rfl rfl (by omega) (by omega) (by omega) rfl ?_
  refine (Qm) ?_
  refine e_callN 2 (fun v => .tuple #[CV h2 k2 n2, v, ii 0]) rfl rfl (Un 92) (seen_app (seen1 0 rfl ⟨[], trivial⟩) seenG) (hE ([⟨r1, cS has k n ch h, 33⟩] ++ (DOR :: G)) _ ((cells_shows r1 4 33 h rfl (Nat.le_of_ble_eq_true rfl) (Nat.le_of_ble_eq_true rfl)).mono (fun x h => List.mem_append_left _ h)) (hvt.mono (fun x h => List.mem_append_right _ h))) (by simp only [maxLen]; omega) (by rw [List.length_map, Nat.mul_one]) rfl rfl fun v1_1 oz1_1 ho1_1 => ?_
  refine (Qm)<|(Qx)<|(Qx)<|(Qx)<|(QH 3) fun r4=>?_
  refine e_storeA (i := 3) (Uz 31) rfl rfl (arrv_size _ _) (cells_one ⟨fun _ => rfl, fun _ => rfl, fun _ => rfl, trivial⟩) rfl cells_sz (.inl rfl) ?_
  refine (Qa)<|(Qa)<|Qn<|Qs<|Qs<|Qp<|(Qm)<|(QN) ?_
  refine e_as (congrArg Value.bool (decide_eq_false (fun h => h rfl))) ?_
  refine Qn ?_
  refine e_cond rfl ?_ ?_
  · intro hc0
    exact absurd hc0 (by decide)
  · intro hc0
    refine Qk<|Qs<|Qp<|(QD 0) ?_
    refine e_as (show _ = SV has k n ch h from rfl) ?_
    refine (QD 3) ?_
    refine e_as (show _ = CV h2 k2 n2 from rfl) ?_
    refine (Qm) ?_
    refine e_callS rfl rfl (Un 93) (seen_app seenG (seenM 2 rfl ⟨[], trivial⟩)) (dtold_at (G := G) (X := oz1_1.toList) has k n ch h h2 k2 n2 _ out (Shows.mono (own_bytes ho1_1) (fun x h => List.mem_append_right _ h)) hob hh (by omega)) rfl rfl ?_
    refine (Qm) ?_
    refine e_storeA (i := 1) (Uz 33) rfl rfl (arrv_size _ _) (cells_one ⟨fun _ => rfl, fun _ => rfl, fun _ => rfl, fun _ => rfl, fun _ => rfl, trivial⟩) rfl cells_sz (.inl rfl) ?_
    refine (Qa)<|(Qa)<|Qn<|Qr ?_
    exact ⟨_, _, _, _, _, 2, rfl, .cell (i := 1) rfl rfl (Uu 33) rfl (Uz 33) (arrv_size _ _), .tmp rfl, .tmp rfl, ho1_1, rfl⟩
set_option maxHeartbeats 2000000 in
theorem dsOpen_err (has : Bool) (k : Nat → Nat) (n : Nat) (ch h : Nat → Nat) (vt : Value) (tx : List Nat) (hvt : Shows (DOR :: G) 1 vt tx.length (tx.map by8)) (e : Nat) (he : e ≠ 0) (hE : ∀ (G2 : Mem) (va : Value), Shows G2 1 va ((List.range 32).map h).length (((List.range 32).map h).map by8) → Sh G2 vt tx → Fn Tryz.prog G2 94 #[CV has k n, va, vt] (.tuple #[CZ, nilS, ii e])) : Fn Tryz.prog (DOR :: G) 66 #[SV has k n ch h, vt] (.tuple #[(.agg (cells 98 [pV (.bool false), pI .u8 32 (fun _ => 0), pV (.int .u64 0), pI .u8 32 (fun _ => 0), pI .u8 32 (fun _ => 0)])), nilS, ii e]) := by
  refine Qf3 Tryz.func66 ?_
  refine Qs<|Qp<|(Qh 0) fun r1=>(QH 1) fun r2=>(Qa)<|(Qa)<|Qn<|Qs<|(Qg)<|(Qf 0) ?_
  refine e_ldK (i := 0) 0 3 (Uu 31 rfl) rfl (Uz 31 rfl) rfl rfl rfl rfl (by decide) rfl ⟨[], trivial⟩ ?_
  refine e_as (show _ = CV has k n from rfl) ?_
  refine (Qf 66) ?_
  refine e_sliceA 0 32 (Uu 28) (Uz 5) rfl rfl rfl rfl rfl (by omega) (by omega) (by omega) rfl ?_
  refine (Qm) ?_
  refine e_callS rfl rfl (Un 94) (seen_app (seen1 0 rfl ⟨[], trivial⟩) seenG) (hE ([⟨r1, cS has k n ch h, 33⟩] ++ (DOR :: G)) _ ((cells_shows r1 4 33 h rfl (Nat.le_of_ble_eq_true rfl) (Nat.le_of_ble_eq_true rfl)).mono (fun x h => List.mem_append_left _ h)) (hvt.mono (fun x h => List.mem_append_right _ h))) rfl rfl ?_
  refine (Qm)<|(Qx)<|(Qx)<|(Qx)<|(QH 2) fun r3=>?_
  refine e_storeA (i := 2) (Uz 31) rfl rfl (arrv_size _ _) (cells_one ⟨fun _ => rfl, fun _ => rfl, fun _ => rfl, trivial⟩) rfl cells_sz (.inl rfl) ?_
  refine (Qa)<|(Qa)<|Qn<|Qs<|Qs<|Qp<|(Qm)<|(QN)<|(Qat)<|Qn ?_
  refine e_cond rfl ?_ ?_
  · intro hc0
    refine Qs<|Qp ?_
    refine e_buildS (cells 98 [pV (.bool false), pI .u8 32 (fun _ => 0), pV (.int .u64 0), pI .u8 32 (fun _ => 0), pI .u8 32 (fun _ => 0)]) (Ub 33 rfl) (Uu 33 rfl) pls33 rfl (by kernel_rfl) rfl ?_
    refine (Qm) ?_
    refine e_storeA (i := 1) (Uz 33) rfl rfl (arrv_size _ _) (cells_one ⟨fun _ => rfl, fun _ => rfl, fun _ => rfl, fun _ => rfl, fun _ => rfl, trivial⟩) rfl cells_sz (.inl rfl) ?_
    refine (Qa)<|(Qa)<|Qn<|Qr ?_
    exact ⟨_, _, _, rfl, .cell (i := 1) rfl rfl (Uu 33) rfl (Uz 33) (arrv_size _ _), .tmp rfl, .tmp rfl⟩
  · intro hc0
    exact absurd hc0 (by decide)
set_option maxHeartbeats 2000000 in
theorem dsOpen_ok (has : Bool) (k : Nat → Nat) (n : Nat) (ch h : Nat → Nat) (vt : Value) (tx out : List Nat) (hvt : Shows (DOR :: G) 1 vt tx.length (tx.map by8)) (htb : (∀ b ∈ tx, b < 256)) (htl : tx.length ≤ 1000) (hol : out.length ≤ 1000) (hh : L8 32 h) (h2 : Bool) (k2 : Nat → Nat) (n2 : Nat) (hE : ∀ (G2 : Mem) (va : Value), Shows G2 1 va ((List.range 32).map h).length (((List.range 32).map h).map by8) → Sh G2 vt tx → Fx Tryz.prog G2 [] 94 #[CV has k n, va, vt] (fun v l1 nw => l1 = [] ∧ ∃ v', v = .tuple #[CV h2 k2 n2, v', ii 0] ∧ OwnS 5 1 v' out.length (out.map by8) nw)) : Fx Tryz.prog (DOR :: G) [] 66 #[SV has k n ch h, vt] (fun v l1 nw => l1 = [] ∧ ∃ v', v = .tuple #[SV h2 k2 n2 ch (hx h tx), v', ii 0] ∧ OwnS 5 1 v' out.length (out.map by8) nw) := by
  refine QfO Tryz.func66 ?_
  refine Qs<|Qp<|(Qh 0) fun r1=>(QH 1) fun r2=>(Qa)<|(Qa)<|Qn<|Qs<|(Qq ⟨[], 4, [], none⟩)<|(Qf 0) ?_
  refine e_ldK (i := 0) 0 3 (Uu 31 rfl) rfl (Uz 31 rfl) rfl rfl rfl rfl (by decide) rfl ⟨[], trivial⟩ ?_
  refine e_as (show _ = CV has k n from rfl) ?_
  refine (Qf 66) ?_
  refine e_sliceA 0 32 (Uu 28) (Uz 5) rfl rfl rfl rfl rfl (by omega) (by omega) (by omega) rfl ?_
  refine (Qm) ?_
  refine e_callN 2 (fun v => .tuple #[CV h2 k2 n2, v, ii 0]) rfl rfl (Un 94) (seen_app (seen1 0 rfl ⟨[], trivial⟩) seenG) (hE ([⟨r1, cS has k n ch h, 33⟩] ++ (DOR :: G)) _ ((cells_shows r1 4 33 h rfl (Nat.le_of_ble_eq_true rfl) (Nat.le_of_ble_eq_true rfl)).mono (fun x h => List.mem_append_left _ h)) (hvt.mono (fun x h => List.mem_append_right _ h))) (by simp only [maxLen]; omega) (by rw [List.length_map, Nat.mul_one]) rfl rfl fun v1_1 oz1_1 ho1_1 => ?_
  refine (Qm)<|(Qx)<|(Qx)<|(Qx)<|(QH 3) fun r4=>?_
  refine e_storeA (i := 3) (Uz 31) rfl rfl (arrv_size _ _) (cells_one ⟨fun _ => rfl, fun _ => rfl, fun _ => rfl, trivial⟩) rfl cells_sz (.inl rfl) ?_
  refine (Qa)<|(Qa)<|Qn<|Qs<|Qs<|Qp<|(Qm)<|(QN) ?_
  refine e_as (congrArg Value.bool (decide_eq_false (fun h => h rfl))) ?_
  refine Qn ?_
  refine e_cond rfl ?_ ?_
  · intro hc0
    exact absurd hc0 (by decide)
  · intro hc0
    refine Qk<|Qs<|Qp<|(QD 0) ?_
    refine e_as (show _ = SV has k n ch h from rfl) ?_
    refine (QD 3) ?_
    refine e_as (show _ = CV h2 k2 n2 from rfl) ?_
    refine (Qm) ?_
    refine e_call rfl (Un 93) (dtold_fn has k n ch h h2 k2 n2 vt tx hvt htb hh (by omega)) rfl rfl ?_
    refine (Qm) ?_
    refine e_storeA (i := 1) (Uz 33) rfl rfl (arrv_size _ _) (cells_one ⟨fun _ => rfl, fun _ => rfl, fun _ => rfl, fun _ => rfl, fun _ => rfl, trivial⟩) rfl cells_sz (.inl rfl) ?_
    refine (Qa)<|(Qa)<|Qn<|Qr ?_
    exact ⟨_, _, _, _, _, 2, rfl, .cell (i := 1) rfl rfl (Uu 33) rfl (Uz 33) (arrv_size _ _), .tmp rfl, .tmp rfl, ho1_1, rfl⟩
end Go.Proofs.YthljakcegoohlabGreatDoor
namespace Go.Proofs.YthljakcegoohlabGreatDoor
open Go Go.RowKit
variable {G : Mem}
set_option maxHeartbeats 2000000 in
theorem dused_bad (has : Bool) (k : Nat → Nat) (n : Nat) (va vt : Value) (vf : Value) (hok : okC has k n = false) : Fn Tryz.prog G 119 #[CV has k n, va, vt, vf] (.tuple #[CZ, nilS, ii 9]) := by
  refine Qf3 Tryz.func119 ?_
  refine Qs<|Qp<|(Qh 0) fun r1=>(QH 1) fun r2=>(Qa)<|(Qa)<|Qn<|Qs<|Qs<|Qp<|(QD 0) ?_
  refine e_call rfl (Un 132) (dchk8_fn has k n) rfl rfl ?_
  refine e_as (congrArg ii (show (if okC has k n = true then 0 else 9) = 9 by rw [hok]; rfl)) ?_
  refine (Qa)<|Qn<|Qs<|Qp<|(Qm)<|(QN)<|Qn ?_
  refine e_cond rfl ?_ ?_
  · intro hc0
    refine Qs<|Qp ?_
    refine e_buildS (cells 34 [pV (.bool false), pI .u8 32 (fun _ => 0), pV (.int .u64 0)]) (Ub 31 rfl) (Uu 31 rfl) pls31 rfl (by kernel_rfl) rfl ?_
    refine (Qm) ?_
    refine e_storeA (i := 1) (Uz 31) rfl rfl (arrv_size _ _) (cells_one ⟨fun _ => rfl, fun _ => rfl, fun _ => rfl, trivial⟩) rfl cells_sz (.inl rfl) ?_
    refine (Qa)<|(Qa)<|Qn<|Qr ?_
    exact ⟨_, _, _, rfl, .cell (i := 1) rfl rfl (Uu 31) rfl (Uz 31) (arrv_size _ _), .tmp rfl, .tmp rfl⟩
  · intro hc0
    exact absurd hc0 (by decide)
set_option maxHeartbeats 2000000 in
theorem dused_pbig (k : Nat → Nat) (n : Nat) (va vt : Value) (vf : Value) (tx : List Nat) (hvt : Sh G vt tx) (hok : okC false k n = true) (hl : 800 < tx.length) : Fn Tryz.prog G 119 #[CV false k n, va, vt, vf] (.tuple #[CZ, nilS, ii 1]) := by
  refine Qf3 Tryz.func119 ?_
  refine Qs<|Qp<|(Qh 0) fun r1=>(QH 1) fun r2=>(Qa)<|(Qa)<|Qn<|Qs<|Qs<|Qp<|(QD 0) ?_
  refine e_call rfl (Un 132) (dchk8_fn false k n) rfl rfl ?_
  refine e_as (congrArg ii (show (if okC false k n = true then 0 else 9) = 0 by rw [hok]; rfl)) ?_
  refine (Qa)<|Qn<|Qs<|Qp<|(Qm)<|(QN)<|Qn ?_
  refine e_cond rfl ?_ ?_
  · intro hc0
    exact absurd hc0 (by decide)
  · intro hc0
    refine Qk<|Qs<|Qs<|Qp<|(Qf 0)<|(QV 0 0)<|(Q0)<|Qn ?_
    refine e_cond rfl ?_ ?_
    · intro hc1
      refine Qs<|Qp<|(QD 0)<|(Qm) ?_
      refine e_call rfl (Un 133) (dplain_big k n vt tx hvt hl) rfl rfl ?_
      refine (Qx)<|(Qx)<|(Qx) ?_
      refine e_storeA (i := 1) (Uz 31) rfl rfl (arrv_size _ _) (cells_one ⟨fun _ => rfl, fun _ => rfl, fun _ => rfl, trivial⟩) rfl cells_sz (.inl rfl) ?_
      refine (Qa)<|(Qa)<|Qn<|Qr ?_
      exact ⟨_, _, _, rfl, .cell (i := 1) rfl rfl (Uu 31) rfl (Uz 31) (arrv_size _ _), .tmp rfl, .tmp rfl⟩
    · intro hc1
      exact absurd hc1 (by decide)
set_option maxHeartbeats 2000000 in
theorem dused_plain (k : Nat → Nat) (n : Nat) (va vt : Value) (vf : Value) (tx : List Nat) (hvt : Sh G vt tx) (hok : okC false k n = true) (hl : tx.length ≤ 800) : Fx Tryz.prog G [] 119 #[CV false k n, va, vt, vf] (fun v l1 nw => l1 = [] ∧ ∃ v', v = .tuple #[CV false k n, v', ii 0] ∧ OwnS 5 1 v' tx.length (tx.map by8) nw) := by
  refine QfO Tryz.func119 ?_
  refine Qs<|Qp<|(Qh 0) fun r1=>(QH 1) fun r2=>(Qa)<|(Qa)<|Qn<|Qs<|Qs<|Qp<|(QD 0) ?_
  refine e_call rfl (Un 132) (dchk8_fn false k n) rfl rfl ?_
  refine e_as (congrArg ii (show (if okC false k n = true then 0 else 9) = 0 by rw [hok]; rfl)) ?_
  refine (Qa)<|Qn<|Qs<|Qp<|(Qm)<|(QN)<|Qn ?_
  refine e_cond rfl ?_ ?_
  · intro hc0
    exact absurd hc0 (by decide)
  · intro hc0
    refine Qk<|Qs<|Qs<|Qp<|(Qf 0)<|(QV 0 0)<|(Q0)<|Qn ?_
    refine e_cond rfl ?_ ?_
    · intro hc1
      refine Qs<|QR ⟨[], 4, [], none⟩<|(QD 0)<|(Qm) ?_
      refine e_callN 2 (fun v => .tuple #[CV false k n, v, ii 0]) rfl rfl (Un 133) seenG (dplain_ok k n vt tx hvt hl) (by simp only [maxLen]; omega) (by rw [List.length_map, Nat.mul_one]) rfl rfl fun v3_1 oz3_1 ho3_1 => ?_
      refine (Qx)<|(Qx)<|(Qx) ?_
      refine e_storeA (i := 1) (Uz 31) rfl rfl (arrv_size _ _) (cells_one ⟨fun _ => rfl, fun _ => rfl, fun _ => rfl, trivial⟩) rfl cells_sz (.inl rfl) ?_
      refine (Qa)<|(Qa)<|Qn<|Qr ?_
      exact ⟨_, _, _, _, _, 2, rfl, .cell (i := 1) rfl rfl (Uu 31) rfl (Uz 31) (arrv_size _ _), .tmp rfl, .tmp rfl, ho3_1, rfl⟩
    · intro hc1
      exact absurd hc1 (by decide)
set_option maxHeartbeats 2000000 in
theorem dused_over (k : Nat → Nat) (n : Nat) (va vt : Value) (vf : Value) (hn : n = 18446744073709551615) : Fn Tryz.prog G 119 #[CV true k n, va, vt, vf] (.tuple #[CZ, nilS, ii 11]) := by
  have hok : okC true k n = true := rfl
  refine Qf3 Tryz.func119 ?_
  refine Qs<|Qp<|(Qh 0) fun r1=>(QH 1) fun r2=>(Qa)<|(Qa)<|Qn<|Qs<|Qs<|Qp<|(QD 0) ?_
  refine e_call rfl (Un 132) (dchk8_fn true k n) rfl rfl ?_
  refine e_as (congrArg ii (show (if okC true k n = true then 0 else 9) = 0 by rw [hok]; rfl)) ?_
  refine (Qa)<|Qn<|Qs<|Qp<|(Qm)<|(QN)<|Qn ?_
  refine e_cond rfl ?_ ?_
  · intro hc0
    exact absurd hc0 (by decide)
  · intro hc0
    refine Qk<|Qs<|Qs<|Qp<|(Qf 0)<|(QV 0 0)<|(Q0)<|Qn ?_
    refine e_cond rfl ?_ ?_
    · intro hc1
      exact absurd hc1 (by decide)
    · intro hc1
      refine Qk<|Qs<|Qs<|Qp<|(Qf 33)<|(QV 2 0)<|(Qc) ?_
      refine e_as (congrArg Value.bool (decide_eq_true (by rw [hn]; decide))) ?_
      refine Qn ?_
      refine e_cond rfl ?_ ?_
      · intro hc2
        refine Qs<|Qp ?_
        refine e_buildS (cells 34 [pV (.bool false), pI .u8 32 (fun _ => 0), pV (.int .u64 0)]) (Ub 31 rfl) (Uu 31 rfl) pls31 rfl (by kernel_rfl) rfl ?_
        refine e_storeA (i := 1) (Uz 31) rfl rfl (arrv_size _ _) (cells_one ⟨fun _ => rfl, fun _ => rfl, fun _ => rfl, trivial⟩) rfl cells_sz (.inl rfl) ?_
        refine (Qa)<|(Qa)<|Qn<|Qr ?_
        exact ⟨_, _, _, rfl, .cell (i := 1) rfl rfl (Uu 31) rfl (Uz 31) (arrv_size _ _), .tmp rfl, .tmp rfl⟩
      · intro hc2
        exact absurd hc2 (by decide)
set_option maxHeartbeats 2000000 in
theorem dused_err_open (k : Nat → Nat) (n : Nat) (va vt : Value) (hn : n < 18446744073709551615) (e : Nat) (he : e ≠ 0) (hE : Fn Tryz.prog G 121 #[.agg (arr .u8 32 k), .agg (arr .u8 12 (nonU n)), va, vt] (.tuple #[nilS, ii e])) : Fn Tryz.prog G 119 #[CV true k n, va, vt, .func (.func 121) #[] #[]] (.tuple #[CZ, nilS, ii e]) := by
  have hok : okC true k n = true := rfl
  refine Qf3 Tryz.func119 ?_
  refine Qs<|Qp<|(Qh 0) fun r1=>(QH 1) fun r2=>(Qa)<|(Qa)<|Qn<|Qs<|Qs<|Qp<|(QD 0) ?_
  refine e_call rfl (Un 132) (dchk8_fn true k n) rfl rfl ?_
  refine e_as (congrArg ii (show (if okC true k n = true then 0 else 9) = 0 by rw [hok]; rfl)) ?_
  refine (Qa)<|Qn<|Qs<|Qp<|(Qm)<|(QN)<|Qn ?_
  refine e_cond rfl ?_ ?_
  · intro hc0
    exact absurd hc0 (by decide)
  · intro hc0
    refine Qk<|Qs<|Qs<|Qp<|(Qf 0)<|(QV 0 0)<|(Q0)<|Qn ?_
    refine e_cond rfl ?_ ?_
    · intro hc1
      exact absurd hc1 (by decide)
    · intro hc1
      refine Qk<|Qs<|Qs<|Qp<|(Qf 33)<|(QV 2 0)<|(Qc)<|(Qaf)<|Qn ?_
      refine e_cond rfl ?_ ?_
      · intro hc2
        exact absurd hc2 (by decide)
      · intro hc2
        refine Qk<|Qs<|(Qg)<|(Qm)<|(Qf 1)<|(Qv 1 0)<|(Qf 33)<|(QV 2 0) ?_
        refine e_call rfl (Un 134) (dnonce_fn n) rfl rfl ?_
        refine (Qm)<|(Qm) ?_
        refine e_callS rfl rfl (Un 121) seenG hE rfl rfl ?_
        refine (Qm)<|(Qx)<|(Qx)<|(Qa)<|(Qa)<|Qn<|Qs<|Qs<|Qp<|(Qm)<|(QN)<|(Qat)<|Qn ?_
        refine e_cond rfl ?_ ?_
        · intro hc3
          refine Qs<|Qp ?_
          refine e_buildS (cells 34 [pV (.bool false), pI .u8 32 (fun _ => 0), pV (.int .u64 0)]) (Ub 31 rfl) (Uu 31 rfl) pls31 rfl (by kernel_rfl) rfl ?_
          refine (Qm) ?_
          refine e_storeA (i := 1) (Uz 31) rfl rfl (arrv_size _ _) (cells_one ⟨fun _ => rfl, fun _ => rfl, fun _ => rfl, trivial⟩) rfl cells_sz (.inl rfl) ?_
          refine (Qa)<|(Qa)<|Qn<|Qr ?_
          exact ⟨_, _, _, rfl, .cell (i := 1) rfl rfl (Uu 31) rfl (Uz 31) (arrv_size _ _), .tmp rfl, .tmp rfl⟩
        · intro hc3
          exact absurd hc3 (by decide)
set_option maxHeartbeats 2000000 in
theorem dused_ok_open (k : Nat → Nat) (n : Nat) (va vt : Value) (hn : n < 18446744073709551615) (out : List Nat) (hm : out.length ≤ maxLen) (hE : Fx Tryz.prog G [] 121 #[.agg (arr .u8 32 k), .agg (arr .u8 12 (nonU n)), va, vt] (fun v l1 nw => l1 = [] ∧ ∃ v', v = .tuple #[v', ii 0] ∧ OwnS 5 1 v' out.length (out.map by8) nw)) : Fx Tryz.prog G [] 119 #[CV true k n, va, vt, .func (.func 121) #[] #[]] (fun v l1 nw => l1 = [] ∧ ∃ v', v = .tuple #[CV true k (n + 1), v', ii 0] ∧ OwnS 5 1 v' out.length (out.map by8) nw) := by
  have hok : okC true k n = true := rfl
  refine QfO Tryz.func119 ?_
  refine Qs<|Qp<|(Qh 0) fun r1=>(QH 1) fun r2=>(Qa)<|(Qa)<|Qn<|Qs<|Qs<|Qp<|(QD 0) ?_
  refine e_call rfl (Un 132) (dchk8_fn true k n) rfl rfl ?_
  refine e_as (congrArg ii (show (if okC true k n = true then 0 else 9) = 0 by rw [hok]; rfl)) ?_
  refine (Qa)<|Qn<|Qs<|Qp<|(Qm)<|(QN)<|Qn ?_
  refine e_cond rfl ?_ ?_
  · intro hc0
    exact absurd hc0 (by decide)
  · intro hc0
    refine Qk<|Qs<|Qs<|Qp<|(Qf 0)<|(QV 0 0)<|(Q0)<|Qn ?_
    refine e_cond rfl ?_ ?_
    · intro hc1
      exact absurd hc1 (by decide)
    · intro hc1
      refine Qk<|Qs<|Qs<|Qp<|(Qf 33)<|(QV 2 0)<|(Qc)<|(Qaf)<|Qn ?_
      refine e_cond rfl ?_ ?_
      · intro hc2
        exact absurd hc2 (by decide)
      · intro hc2
        refine Qk<|Qs<|(Qq ⟨[], 4, [], none⟩)<|(Qm)<|(Qf 1)<|(Qv 1 0)<|(Qf 33)<|(QV 2 0) ?_
        refine e_call rfl (Un 134) (dnonce_fn n) rfl rfl ?_
        refine (Qm)<|(Qm) ?_
        refine e_callN 2 (fun v => .tuple #[v, ii 0]) rfl rfl (Un 121) seenG hE hm (by rw [List.length_map, Nat.mul_one]) rfl rfl fun v4_1 oz4_1 ho4_1 => ?_
        refine (Qm)<|(Qx)<|(Qx)<|(Qa)<|(Qa)<|Qn<|Qs<|Qs<|Qp<|(Qm)<|(QN) ?_
        refine e_as (congrArg Value.bool (decide_eq_false (fun h => h rfl))) ?_
        refine Qn ?_
        refine e_cond rfl ?_ ?_
        · intro hc3
          exact absurd hc3 (by decide)
        · intro hc3
          refine Qk<|Qs<|Qp<|(Qf 33)<|(QV 2 0) ?_
          refine e_add_u (q := 1) rfl rfl rfl  ?_
          refine e_as (congrArg u (Nat.mod_eq_of_lt (show n + 1 < 18446744073709551616 by omega))) ?_
          refine (Qf 33) ?_
          refine e_stV (i := 0) 2 (Uz 29) rfl rfl rfl rfl rfl (by decide) (.inl rfl) ?_
          refine Qn<|Qs<|Qp<|(QD 0) ?_
          refine e_as (show _ = CV true k (n + 1) from rfl) ?_
          refine (Qm) ?_
          refine e_storeA (i := 1) (Uz 31) rfl rfl (arrv_size _ _) (cells_one ⟨fun _ => rfl, fun _ => rfl, fun _ => rfl, trivial⟩) rfl cells_sz (.inl rfl) ?_
          refine (Qa)<|(Qa)<|Qn<|Qr ?_
          exact ⟨_, _, _, _, _, 2, rfl, .cell (i := 1) rfl rfl (Uu 31) rfl (Uz 31) (arrv_size _ _), .tmp rfl, .tmp rfl, ho4_1, rfl⟩
set_option maxHeartbeats 2000000 in
theorem dused_err_seal (k : Nat → Nat) (n : Nat) (va vt : Value) (hn : n < 18446744073709551615) (e : Nat) (he : e ≠ 0) (hE : Fn Tryz.prog G 120 #[.agg (arr .u8 32 k), .agg (arr .u8 12 (nonU n)), va, vt] (.tuple #[nilS, ii e])) : Fn Tryz.prog G 119 #[CV true k n, va, vt, .func (.func 120) #[] #[]] (.tuple #[CZ, nilS, ii e]) := by
  have hok : okC true k n = true := rfl
  refine Qf3 Tryz.func119 ?_
  refine Qs<|Qp<|(Qh 0) fun r1=>(QH 1) fun r2=>(Qa)<|(Qa)<|Qn<|Qs<|Qs<|Qp<|(QD 0) ?_
  refine e_call rfl (Un 132) (dchk8_fn true k n) rfl rfl ?_
  refine e_as (congrArg ii (show (if okC true k n = true then 0 else 9) = 0 by rw [hok]; rfl)) ?_
  refine (Qa)<|Qn<|Qs<|Qp<|(Qm)<|(QN)<|Qn ?_
  refine e_cond rfl ?_ ?_
  · intro hc0
    exact absurd hc0 (by decide)
  · intro hc0
    refine Qk<|Qs<|Qs<|Qp<|(Qf 0)<|(QV 0 0)<|(Q0)<|Qn ?_
    refine e_cond rfl ?_ ?_
    · intro hc1
      exact absurd hc1 (by decide)
    · intro hc1
      refine Qk<|Qs<|Qs<|Qp<|(Qf 33)<|(QV 2 0)<|(Qc)<|(Qaf)<|Qn ?_
      refine e_cond rfl ?_ ?_
      · intro hc2
        exact absurd hc2 (by decide)
      · intro hc2
        refine Qk<|Qs<|(Qg)<|(Qm)<|(Qf 1)<|(Qv 1 0)<|(Qf 33)<|(QV 2 0) ?_
        refine e_call rfl (Un 134) (dnonce_fn n) rfl rfl ?_
        refine (Qm)<|(Qm) ?_
        refine e_callS rfl rfl (Un 120) seenG hE rfl rfl ?_
        refine (Qm)<|(Qx)<|(Qx)<|(Qa)<|(Qa)<|Qn<|Qs<|Qs<|Qp<|(Qm)<|(QN)<|(Qat)<|Qn ?_
        refine e_cond rfl ?_ ?_
        · intro hc3
          refine Qs<|Qp ?_
          refine e_buildS (cells 34 [pV (.bool false), pI .u8 32 (fun _ => 0), pV (.int .u64 0)]) (Ub 31 rfl) (Uu 31 rfl) pls31 rfl (by kernel_rfl) rfl ?_
          refine (Qm) ?_
          refine e_storeA (i := 1) (Uz 31) rfl rfl (arrv_size _ _) (cells_one ⟨fun _ => rfl, fun _ => rfl, fun _ => rfl, trivial⟩) rfl cells_sz (.inl rfl) ?_
          refine (Qa)<|(Qa)<|Qn<|Qr ?_
          exact ⟨_, _, _, rfl, .cell (i := 1) rfl rfl (Uu 31) rfl (Uz 31) (arrv_size _ _), .tmp rfl, .tmp rfl⟩
        · intro hc3
          exact absurd hc3 (by decide)
set_option maxHeartbeats 2000000 in
theorem dused_ok_seal (k : Nat → Nat) (n : Nat) (va vt : Value) (hn : n < 18446744073709551615) (out : List Nat) (hm : out.length ≤ maxLen) (hE : Fx Tryz.prog G [] 120 #[.agg (arr .u8 32 k), .agg (arr .u8 12 (nonU n)), va, vt] (fun v l1 nw => l1 = [] ∧ ∃ v', v = .tuple #[v', ii 0] ∧ OwnS 5 1 v' out.length (out.map by8) nw)) : Fx Tryz.prog G [] 119 #[CV true k n, va, vt, .func (.func 120) #[] #[]] (fun v l1 nw => l1 = [] ∧ ∃ v', v = .tuple #[CV true k (n + 1), v', ii 0] ∧ OwnS 5 1 v' out.length (out.map by8) nw) := by
  have hok : okC true k n = true := rfl
  refine QfO Tryz.func119 ?_
  refine Qs<|Qp<|(Qh 0) fun r1=>(QH 1) fun r2=>(Qa)<|(Qa)<|Qn<|Qs<|Qs<|Qp<|(QD 0) ?_
  refine e_call rfl (Un 132) (dchk8_fn true k n) rfl rfl ?_
  refine e_as (congrArg ii (show (if okC true k n = true then 0 else 9) = 0 by rw [hok]; rfl)) ?_
  refine (Qa)<|Qn<|Qs<|Qp<|(Qm)<|(QN)<|Qn ?_
  refine e_cond rfl ?_ ?_
  · intro hc0
    exact absurd hc0 (by decide)
  · intro hc0
    refine Qk<|Qs<|Qs<|Qp<|(Qf 0)<|(QV 0 0)<|(Q0)<|Qn ?_
    refine e_cond rfl ?_ ?_
    · intro hc1
      exact absurd hc1 (by decide)
    · intro hc1
      refine Qk<|Qs<|Qs<|Qp<|(Qf 33)<|(QV 2 0)<|(Qc)<|(Qaf)<|Qn ?_
      refine e_cond rfl ?_ ?_
      · intro hc2
        exact absurd hc2 (by decide)
      · intro hc2
        refine Qk<|Qs<|(Qq ⟨[], 4, [], none⟩)<|(Qm)<|(Qf 1)<|(Qv 1 0)<|(Qf 33)<|(QV 2 0) ?_
        refine e_call rfl (Un 134) (dnonce_fn n) rfl rfl ?_
        refine (Qm)<|(Qm) ?_
        refine e_callN 2 (fun v => .tuple #[v, ii 0]) rfl rfl (Un 120) seenG hE hm (by rw [List.length_map, Nat.mul_one]) rfl rfl fun v4_1 oz4_1 ho4_1 => ?_
        refine (Qm)<|(Qx)<|(Qx)<|(Qa)<|(Qa)<|Qn<|Qs<|Qs<|Qp<|(Qm)<|(QN) ?_
        refine e_as (congrArg Value.bool (decide_eq_false (fun h => h rfl))) ?_
        refine Qn ?_
        refine e_cond rfl ?_ ?_
        · intro hc3
          exact absurd hc3 (by decide)
        · intro hc3
          refine Qk<|Qs<|Qp<|(Qf 33)<|(QV 2 0) ?_
          refine e_add_u (q := 1) rfl rfl rfl  ?_
          refine e_as (congrArg u (Nat.mod_eq_of_lt (show n + 1 < 18446744073709551616 by omega))) ?_
          refine (Qf 33) ?_
          refine e_stV (i := 0) 2 (Uz 29) rfl rfl rfl rfl rfl (by decide) (.inl rfl) ?_
          refine Qn<|Qs<|Qp<|(QD 0) ?_
          refine e_as (show _ = CV true k (n + 1) from rfl) ?_
          refine (Qm) ?_
          refine e_storeA (i := 1) (Uz 31) rfl rfl (arrv_size _ _) (cells_one ⟨fun _ => rfl, fun _ => rfl, fun _ => rfl, trivial⟩) rfl cells_sz (.inl rfl) ?_
          refine (Qa)<|(Qa)<|Qn<|Qr ?_
          exact ⟨_, _, _, _, _, 2, rfl, .cell (i := 1) rfl rfl (Uu 31) rfl (Uz 31) (arrv_size _ _), .tmp rfl, .tmp rfl, ho4_1, rfl⟩
end Go.Proofs.YthljakcegoohlabGreatDoor
namespace Go.Proofs.YthljakcegoohlabGreatDoor
open Go Go.RowKit
variable {G : Mem}
set_option maxHeartbeats 2000000 in
theorem dcopen_err (has : Bool) (k : Nat → Nat) (n : Nat) (va vt : Value) (e : Nat) (hU : Fn Tryz.prog G 119 #[CV has k n, va, vt, .func (.func 121) #[] #[]] (.tuple #[CZ, nilS, ii e])) : Fn Tryz.prog G 94 #[CV has k n, va, vt] (.tuple #[CZ, nilS, ii e]) := by
  refine Qf3 Tryz.func94 ?_
  refine Qs<|Qp<|(Qh 0) fun r1=>(QH 1) fun r2=>(Qa)<|(Qa)<|Qn<|Qs<|Qp<|(QD 0)<|(Qm)<|(Qm) ?_
  refine e_call rfl (Un 119) hU rfl rfl ?_
  refine (Qx)<|(Qx)<|(Qx) ?_
  refine e_storeA (i := 1) (Uz 31) rfl rfl (arrv_size _ _) (cells_one ⟨fun _ => rfl, fun _ => rfl, fun _ => rfl, trivial⟩) rfl cells_sz (.inl rfl) ?_
  refine (Qa)<|(Qa)<|Qn<|Qr ?_
  exact ⟨_, _, _, rfl, .cell (i := 1) rfl rfl (Uu 31) rfl (Uz 31) (arrv_size _ _), .tmp rfl, .tmp rfl⟩
set_option maxHeartbeats 2000000 in
theorem dcopen_ok (has : Bool) (k : Nat → Nat) (n : Nat) (va vt : Value) (h2 : Bool) (k2 : Nat → Nat) (n2 : Nat) (out : List Nat) (hm : out.length ≤ maxLen) (hU : Fx Tryz.prog G [] 119 #[CV has k n, va, vt, .func (.func 121) #[] #[]] (fun v l1 nw => l1 = [] ∧ ∃ v', v = .tuple #[CV h2 k2 n2, v', ii 0] ∧ OwnS 5 1 v' out.length (out.map by8) nw)) : Fx Tryz.prog G [] 94 #[CV has k n, va, vt] (fun v l1 nw => l1 = [] ∧ ∃ v', v = .tuple #[CV h2 k2 n2, v', ii 0] ∧ OwnS 5 1 v' out.length (out.map by8) nw) := by
  refine QfO Tryz.func94 ?_
  refine Qs<|Qp<|(Qh 0) fun r1=>(QH 1) fun r2=>(Qa)<|(Qa)<|Qn<|Qs<|QR ⟨[], 4, [], none⟩<|(QD 0)<|(Qm)<|(Qm) ?_
  refine e_callN 2 (fun v => .tuple #[CV h2 k2 n2, v, ii 0]) rfl rfl (Un 119) seenG hU hm (by rw [List.length_map, Nat.mul_one]) rfl rfl fun v1_1 oz1_1 ho1_1 => ?_
  refine (Qx)<|(Qx)<|(Qx) ?_
  refine e_storeA (i := 1) (Uz 31) rfl rfl (arrv_size _ _) (cells_one ⟨fun _ => rfl, fun _ => rfl, fun _ => rfl, trivial⟩) rfl cells_sz (.inl rfl) ?_
  refine (Qa)<|(Qa)<|Qn<|Qr ?_
  exact ⟨_, _, _, _, _, 2, rfl, .cell (i := 1) rfl rfl (Uu 31) rfl (Uz 31) (arrv_size _ _), .tmp rfl, .tmp rfl, ho1_1, rfl⟩
set_option maxHeartbeats 2000000 in
theorem dcseal_err (has : Bool) (k : Nat → Nat) (n : Nat) (va vt : Value) (e : Nat) (hU : Fn Tryz.prog G 119 #[CV has k n, va, vt, .func (.func 120) #[] #[]] (.tuple #[CZ, nilS, ii e])) : Fn Tryz.prog G 92 #[CV has k n, va, vt] (.tuple #[CZ, nilS, ii e]) := by
  refine Qf3 Tryz.func92 ?_
  refine Qs<|Qp<|(Qh 0) fun r1=>(QH 1) fun r2=>(Qa)<|(Qa)<|Qn<|Qs<|Qp<|(QD 0)<|(Qm)<|(Qm) ?_
  refine e_call rfl (Un 119) hU rfl rfl ?_
  refine (Qx)<|(Qx)<|(Qx) ?_
  refine e_storeA (i := 1) (Uz 31) rfl rfl (arrv_size _ _) (cells_one ⟨fun _ => rfl, fun _ => rfl, fun _ => rfl, trivial⟩) rfl cells_sz (.inl rfl) ?_
  refine (Qa)<|(Qa)<|Qn<|Qr ?_
  exact ⟨_, _, _, rfl, .cell (i := 1) rfl rfl (Uu 31) rfl (Uz 31) (arrv_size _ _), .tmp rfl, .tmp rfl⟩
set_option maxHeartbeats 2000000 in
theorem dcseal_ok (has : Bool) (k : Nat → Nat) (n : Nat) (va vt : Value) (h2 : Bool) (k2 : Nat → Nat) (n2 : Nat) (out : List Nat) (hm : out.length ≤ maxLen) (hU : Fx Tryz.prog G [] 119 #[CV has k n, va, vt, .func (.func 120) #[] #[]] (fun v l1 nw => l1 = [] ∧ ∃ v', v = .tuple #[CV h2 k2 n2, v', ii 0] ∧ OwnS 5 1 v' out.length (out.map by8) nw)) : Fx Tryz.prog G [] 92 #[CV has k n, va, vt] (fun v l1 nw => l1 = [] ∧ ∃ v', v = .tuple #[CV h2 k2 n2, v', ii 0] ∧ OwnS 5 1 v' out.length (out.map by8) nw) := by
  refine QfO Tryz.func92 ?_
  refine Qs<|Qp<|(Qh 0) fun r1=>(QH 1) fun r2=>(Qa)<|(Qa)<|Qn<|Qs<|QR ⟨[], 4, [], none⟩<|(QD 0)<|(Qm)<|(Qm) ?_
  refine e_callN 2 (fun v => .tuple #[CV h2 k2 n2, v, ii 0]) rfl rfl (Un 119) seenG hU hm (by rw [List.length_map, Nat.mul_one]) rfl rfl fun v1_1 oz1_1 ho1_1 => ?_
  refine (Qx)<|(Qx)<|(Qx) ?_
  refine e_storeA (i := 1) (Uz 31) rfl rfl (arrv_size _ _) (cells_one ⟨fun _ => rfl, fun _ => rfl, fun _ => rfl, trivial⟩) rfl cells_sz (.inl rfl) ?_
  refine (Qa)<|(Qa)<|Qn<|Qr ?_
  exact ⟨_, _, _, _, _, 2, rfl, .cell (i := 1) rfl rfl (Uu 31) rfl (Uz 31) (arrv_size _ _), .tmp rfl, .tmp rfl, ho1_1, rfl⟩
end Go.Proofs.YthljakcegoohlabGreatDoor
namespace Go.Proofs.YthljakcegoohlabGreatDoor
open Go Go.RowKit
theorem dsealA {G : Mem} (hO : DOR ∈ G) (y : SY) (hy : okY y) (vt : Value) (tx : List Nat) (hvt : Shows G 1 vt tx.length (tx.map by8)) (htb : ∀ b ∈ tx, b < 256) (w : Nat × SY × List Nat) (hw : sealP y tx = w) :
    (w.1 ≠ 0 → Fn Tryz.prog G 64 #[SVy y, vt] (.tuple #[SVy w.2.1, nilS, ii w.1])) ∧ (w.1 = 0 → Fx Tryz.prog G [] 64 #[SVy y, vt] (fun v l1 nw => l1 = [] ∧ ∃ v', v = .tuple #[SVy w.2.1, v', ii 0] ∧ OwnS 5 1 v' w.2.2.length (w.2.2.map by8) nw)) := by
  obtain ⟨has, k, n, ch, h⟩ := y
  obtain ⟨hk, hn, hc, hh⟩ := hy
  have hv2 : Shows (DOR :: G) 1 vt tx.length (tx.map by8) := hvt.mono fun _ hx => List.mem_cons_of_mem _ hx
  have hk : ∀ j, j < 32 → k j < 256 := hk
  have hn : n < 18446744073709551616 := hn
  have hh : ∀ j, j < 32 → h j < 256 := hh
  have ee : ∀ (has : Bool) (e : Nat), e ≠ 0 → (∀ (G2 : Mem) (va : Value), Shows G2 1 va (ky h).length ((ky h).map by8) → Shows G2 1 vt tx.length (tx.map by8) → Fn Tryz.prog G2 119 #[CV has k n, va, vt, .func (.func 120) #[] #[]] (.tuple #[CZ, nilS, ii e])) → Fn Tryz.prog G 64 #[SV has k n ch h, vt] (.tuple #[SVy SYZ, nilS, ii e]) := fun has e he hU =>
    (dsSeal_err (G := G) has k n ch h vt tx hv2 e he (fun G2 va ha ht => dcseal_err has k n va vt e (hU G2 va ha ht))).more (in1 hO)
  by_cases hok : okC has k n = false
  · obtain rfl : w = (9, SYZ, []) := by rw [← hw]; exact if_pos hok
    exact ⟨fun _ => ee has 9 (by decide) fun _ va _ _ => dused_bad has k n va vt _ hok, fun h0 => absurd h0 nin_ne⟩
  have hok2 : okC has k n = true := by simpa using hok
  cases has
  · by_cases hl : 800 < tx.length
    · obtain rfl : w = (1, SYZ, []) := by rw [← hw]; exact (if_neg hok).trans ((if_pos rfl).trans (if_pos hl))
      exact ⟨fun _ => ee false 1 (by decide) fun _ va _ ht => dused_pbig k n va vt _ tx ht hok2 hl, fun h0 => absurd h0 onn_ne⟩
    · obtain rfl : w = (0, hashP (false, k, n, ch, h) tx, tx) := by rw [← hw]; exact (if_neg hok).trans ((if_pos rfl).trans (if_neg hl))
      exact ⟨fun h0 => absurd rfl h0, fun _ => (dsSeal_ok (G := G) false k n ch h vt tx tx hv2 htb (by omega) hh false k n (fun G2 va _ ht => dcseal_ok false k n va vt false k n tx (by simp only [maxLen]; omega) (dused_plain k n va vt _ tx ht hok2 (by omega)))).wide (in1 hO)⟩
  have ht : ¬ true = false := by decide
  by_cases hov : n = 18446744073709551615
  · obtain rfl : w = (11, SYZ, []) := by rw [← hw]; exact (if_neg hok).trans ((if_neg ht).trans (if_pos hov))
    exact ⟨fun _ => ee true 11 (by decide) fun _ va _ _ => dused_over k n va vt _ hov, fun h0 => absurd h0 eleven_ne⟩
  have hn1 : n < 18446744073709551615 := by omega
  by_cases h2 : 800 < tx.length
  · obtain rfl : w = (1, SYZ, []) := by rw [← hw]; exact (if_neg hok).trans ((if_neg ht).trans ((if_neg hov).trans (if_pos h2)))
    exact ⟨fun _ => ee true 1 (by decide) fun _ va ha ht => dused_err_seal k n va vt hn1 1 (by decide) (dseal_big2 k (nonU n) va vt (ky h) tx ha ht (by simp) h2), fun h0 => absurd h0 onn_ne⟩
  obtain rfl : w = (0, (true, k, n + 1, ch, hx h (sealL k (nonU n) (ky h) tx)), sealL k (nonU n) (ky h) tx) := by rw [← hw]; exact (if_neg hok).trans ((if_neg ht).trans ((if_neg hov).trans (if_neg h2)))
  exact ⟨fun h0 => absurd rfl h0, fun _ => (dsSeal_ok (G := G) true k n ch h vt tx (sealL k (nonU n) (ky h) tx) hv2 (sealL_lt _ _ _ _) (by rw [sealL_len]; omega) hh true k (n + 1) (fun G2 va ha ht => dcseal_ok true k n va vt true k (n + 1) _ (by rw [sealL_len]; simp only [maxLen]; omega) (dused_ok_seal k n va vt hn1 _ (by rw [sealL_len]; simp only [maxLen]; omega) (dseal_ok k (nonU n) va vt (ky h) tx hk (nonU_lt n) ha ht (ky_lt hh) (by simp) (by omega))))).wide (in1 hO)⟩
theorem dopenA {G : Mem} (hO : DOR ∈ G) (y : SY) (hy : okY y) (vt : Value) (tx : List Nat) (hvt : Shows G 1 vt tx.length (tx.map by8)) (htb : ∀ b ∈ tx, b < 256) (w : Nat × SY × List Nat) (hw : openP y tx = w) :
    (w.1 ≠ 0 → Fn Tryz.prog G 66 #[SVy y, vt] (.tuple #[SVy w.2.1, nilS, ii w.1])) ∧ (w.1 = 0 → Fx Tryz.prog G [] 66 #[SVy y, vt] (fun v l1 nw => l1 = [] ∧ ∃ v', v = .tuple #[SVy w.2.1, v', ii 0] ∧ OwnS 5 1 v' w.2.2.length (w.2.2.map by8) nw)) := by
  obtain ⟨has, k, n, ch, h⟩ := y
  obtain ⟨hk, hn, hc, hh⟩ := hy
  have hv2 : Shows (DOR :: G) 1 vt tx.length (tx.map by8) := hvt.mono fun _ hx => List.mem_cons_of_mem _ hx
  have hk : ∀ j, j < 32 → k j < 256 := hk
  have hn : n < 18446744073709551616 := hn
  have hh : ∀ j, j < 32 → h j < 256 := hh
  have ee : ∀ (has : Bool) (e : Nat), e ≠ 0 → (∀ (G2 : Mem) (va : Value), Shows G2 1 va (ky h).length ((ky h).map by8) → Shows G2 1 vt tx.length (tx.map by8) → Fn Tryz.prog G2 119 #[CV has k n, va, vt, .func (.func 121) #[] #[]] (.tuple #[CZ, nilS, ii e])) → Fn Tryz.prog G 66 #[SV has k n ch h, vt] (.tuple #[SVy SYZ, nilS, ii e]) := fun has e he hU =>
    (dsOpen_err (G := G) has k n ch h vt tx hv2 e he (fun G2 va ha ht => dcopen_err has k n va vt e (hU G2 va ha ht))).more (in1 hO)
  by_cases hok : okC has k n = false
  · obtain rfl : w = (9, SYZ, []) := by rw [← hw]; exact if_pos hok
    exact ⟨fun _ => ee has 9 (by decide) fun _ va _ _ => dused_bad has k n va vt _ hok, fun h0 => absurd h0 nin_ne⟩
  have hok2 : okC has k n = true := by simpa using hok
  cases has
  · by_cases hl : 800 < tx.length
    · obtain rfl : w = (1, SYZ, []) := by rw [← hw]; exact (if_neg hok).trans ((if_pos rfl).trans (if_pos hl))
      exact ⟨fun _ => ee false 1 (by decide) fun _ va _ ht => dused_pbig k n va vt _ tx ht hok2 hl, fun h0 => absurd h0 onn_ne⟩
    · obtain rfl : w = (0, hashP (false, k, n, ch, h) tx, tx) := by rw [← hw]; exact (if_neg hok).trans ((if_pos rfl).trans (if_neg hl))
      exact ⟨fun h0 => absurd rfl h0, fun _ => (dsOpen_ok (G := G) false k n ch h vt tx tx hv2 htb (by omega) (by omega) hh false k n (fun G2 va _ ht => dcopen_ok false k n va vt false k n tx (by simp only [maxLen]; omega) (dused_plain k n va vt _ tx ht hok2 (by omega)))).wide (in1 hO)⟩
  have ht : ¬ true = false := by decide
  by_cases hov : n = 18446744073709551615
  · obtain rfl : w = (11, SYZ, []) := by rw [← hw]; exact (if_neg hok).trans ((if_neg ht).trans (if_pos hov))
    exact ⟨fun _ => ee true 11 (by decide) fun _ va _ _ => dused_over k n va vt _ hov, fun h0 => absurd h0 eleven_ne⟩
  have hn1 : n < 18446744073709551615 := by omega
  by_cases h2 : 816 < tx.length
  · obtain rfl : w = (1, SYZ, []) := by rw [← hw]; exact (if_neg hok).trans ((if_neg ht).trans ((if_neg hov).trans (if_pos h2)))
    exact ⟨fun _ => ee true 1 (by decide) fun _ va ha ht => dused_err_open k n va vt hn1 1 (by decide) (dopen_big2 k (nonU n) va vt (ky h) tx ha ht (by simp) h2), fun h0 => absurd h0 onn_ne⟩
  by_cases h3 : tx.length < 16
  · obtain rfl : w = (4, SYZ, []) := by rw [← hw]; exact (if_neg hok).trans ((if_neg ht).trans ((if_neg hov).trans ((if_neg h2).trans (if_pos h3))))
    exact ⟨fun _ => ee true 4 (by decide) fun _ va ha ht => dused_err_open k n va vt hn1 4 (by decide) (dopen_short k (nonU n) va vt (ky h) tx ha ht (by simp) h3), fun h0 => absurd h0 four_ne⟩
  by_cases ho : opensL k (nonU n) (ky h) tx
  · obtain rfl : w = (0, (true, k, n + 1, ch, hx h tx), openL k (nonU n) tx) := by rw [← hw]; exact (if_neg hok).trans ((if_neg ht).trans ((if_neg hov).trans ((if_neg h2).trans ((if_neg h3).trans (if_pos ho)))))
    exact ⟨fun h0 => absurd rfl h0, fun _ => (dsOpen_ok (G := G) true k n ch h vt tx (openL k (nonU n) tx) hv2 htb (by omega) (by rw [openL_len]; omega) hh true k (n + 1) (fun G2 va ha ht => dcopen_ok true k n va vt true k (n + 1) _ (by rw [openL_len]; simp only [maxLen]; omega) (dused_ok_open k n va vt hn1 _ (by rw [openL_len]; simp only [maxLen]; omega) (dopen_ok k (nonU n) va vt (ky h) tx hk (nonU_lt n) ha ht (ky_lt hh) htb (by simp) (by omega) (by omega) ho)))).wide (in1 hO)⟩
  · obtain rfl : w = (10, SYZ, []) := by rw [← hw]; exact (if_neg hok).trans ((if_neg ht).trans ((if_neg hov).trans ((if_neg h2).trans ((if_neg h3).trans (if_neg ho)))))
    exact ⟨fun _ => ee true 10 (by decide) fun _ va ha ht => dused_err_open k n va vt hn1 10 (by decide) (dopen_auth k (nonU n) va vt (ky h) tx hk (nonU_lt n) ha ht (ky_lt hh) htb (by simp) (by omega) (by omega) ho), fun h0 => absurd h0 ten_ne⟩
variable {G : Mem}
end Go.Proofs.YthljakcegoohlabGreatDoor
namespace Go.Proofs.YthljakcegoohlabGreatDoor
open Go Go.RowKit
variable {G : Mem}
set_option maxHeartbeats 2000000 in
theorem dshseal_err (hO : DOR ∈ G) (b : List Nat) (l : Bool) (vp v0 v1 vt : Value) (fi : Bool) (tn : Int) (dd : Bool) (y : SY) (r : RS) (ow : Nat → Nat) (vk : Value) (us : Int) (h1 : ones vp v0 v1 vt vk) (hy : okY y) (vx : Value) (tx : List Nat) (hvt : Sh G vx tx) (htb : ∀ b ∈ tx, b < 256) (w : Nat × SY × List Nat) (hw : sealP y tx = w) (he : w.1 ≠ 0) : Fn Tryz.prog G 37 #[.agg (shC b l vp v0 v1 vt fi tn dd y ow r vk us), vx] (.tuple #[.agg (shC b l vp v0 v1 vt fi tn dd w.2.1 ow r vk us), nilS, ii w.1]) := by
  refine Qf3 Tryz.func37 ?_
  refine Qs<|Qp<|(Qh 0) fun r1=>(QH 1) fun r2=>(Qa)<|(Qa)<|Qn<|Qs<|Qp<|(Qf 9) ?_
  refine e_ldK (i := 0) 9 5 (Uu 33 rfl) rfl (Uz 33 rfl) rfl rfl rfl rfl (by decide) rfl ⟨[], trivial⟩ ?_
  refine e_as (show _ = SVy y from rfl) ?_
  refine (Qm) ?_
  refine e_call rfl (Un 64) ((dsealA hO y hy vx tx hvt htb w hw).1 he) rfl rfl ?_
  refine (Qm)<|(Qx)<|(Qx)<|(Qx)<|(QH 2) fun r3=>?_
  refine e_storeA (i := 2) (Uz 33) rfl rfl (arrv_size _ _) (cells_one ⟨fun _ => rfl, fun _ => rfl, fun _ => rfl, fun _ => rfl, fun _ => rfl, trivial⟩) rfl cells_sz (.inl rfl) ?_
  refine (Qa)<|(Qa)<|Qn<|Qs<|Qp<|(QD 2)<|(Qf 9) ?_
  refine e_stK (i := 0) 9 5 (Uz 33 rfl) rfl rfl ⟨fun _ => rfl, fun _ => rfl, fun _ => rfl, fun _ => rfl, fun _ => rfl, trivial⟩ rfl rfl rfl rfl (by decide) (.inl rfl) ?_
  refine e_blk (c' := shC b l vp v0 v1 vt fi tn dd w.2.1 ow r vk us) rfl ?_
  refine Qn<|Qs<|Qp<|(QD 0)<|(Qm)<|(Qm) ?_
  refine e_storeA (i := 1) (Uz 36) rfl rfl (arrv_size _ _) (cells_one ⟨fun _ => rfl, fun _ => rfl, fun _ => h1.1, fun _ => h1.2.1, fun _ => h1.2.2.1, fun _ => h1.2.2.2.1, fun _ => rfl, fun _ => rfl, fun _ => rfl, fun _ => rfl, fun _ => rfl, fun _ => rfl, fun _ => rfl, fun _ => rfl, fun _ => rfl, fun _ => rfl, fun _ => rfl, fun _ => rfl, fun _ => rfl, fun _ => rfl, fun _ => rfl, fun _ => h1.2.2.2.2, fun _ => rfl, trivial⟩) rfl cells_sz (.inl rfl) ?_
  refine (Qa)<|(Qa)<|Qn<|Qr ?_
  exact ⟨_, _, _, rfl, .cell (i := 1) rfl rfl (Uu 36) rfl (Uz 36) (arrv_size _ _), .tmp rfl, .tmp rfl⟩
set_option maxHeartbeats 2000000 in
theorem dshseal_ok (hO : DOR ∈ G) (b : List Nat) (l : Bool) (vp v0 v1 vt : Value) (fi : Bool) (tn : Int) (dd : Bool) (y : SY) (r : RS) (ow : Nat → Nat) (vk : Value) (us : Int) (h1 : ones vp v0 v1 vt vk) (hy : okY y) (vx : Value) (tx : List Nat) (hvt : Sh G vx tx) (htb : ∀ b ∈ tx, b < 256) (w : Nat × SY × List Nat) (hw : sealP y tx = w) (htl : tx.length ≤ 100000) (he : w.1 = 0) : Fx Tryz.prog G [] 37 #[.agg (shC b l vp v0 v1 vt fi tn dd y ow r vk us), vx] (fun v l1 nw => l1 = [] ∧ ∃ v', v = .tuple #[.agg (shC b l vp v0 v1 vt fi tn dd w.2.1 ow r vk us), v', ii 0] ∧ OwnS 5 1 v' w.2.2.length (w.2.2.map by8) nw) := by
  have hwl : w.2.2.length ≤ tx.length + 16 := by rw [← hw]; have := sealP_len y tx; omega
  refine QfO Tryz.func37 ?_
  refine Qs<|Qp<|(Qh 0) fun r1=>(QH 1) fun r2=>(Qa)<|(Qa)<|Qn<|Qs<|QR ⟨[], 4, [], none⟩<|(Qf 9) ?_
  refine e_ldK (i := 0) 9 5 (Uu 33 rfl) rfl (Uz 33 rfl) rfl rfl rfl rfl (by decide) rfl ⟨[], trivial⟩ ?_
  refine e_as (show _ = SVy y from rfl) ?_
  refine (Qm) ?_
  refine e_callN 2 (fun v => .tuple #[SVy w.2.1, v, ii 0]) rfl rfl (Un 64) seenG ((dsealA hO y hy vx tx hvt htb w hw).2 he) (by simp only [maxLen]; omega) (by rw [List.length_map, Nat.mul_one]) rfl rfl fun v1_1 oz1_1 ho1_1 => ?_
  refine (Qm)<|(Qx)<|(Qx)<|(Qx)<|(QH 3) fun r4=>?_
  refine e_storeA (i := 3) (Uz 33) rfl rfl (arrv_size _ _) (cells_one ⟨fun _ => rfl, fun _ => rfl, fun _ => rfl, fun _ => rfl, fun _ => rfl, trivial⟩) rfl cells_sz (.inl rfl) ?_
  refine (Qa)<|(Qa)<|Qn<|Qs<|Qp<|(QD 3)<|(Qf 9) ?_
  refine e_stK (i := 0) 9 5 (Uz 33 rfl) rfl rfl ⟨fun _ => rfl, fun _ => rfl, fun _ => rfl, fun _ => rfl, fun _ => rfl, trivial⟩ rfl rfl rfl rfl (by decide) (.inl rfl) ?_
  refine e_blk (c' := shC b l vp v0 v1 vt fi tn dd w.2.1 ow r vk us) rfl ?_
  refine Qn<|Qs<|Qp<|(QD 0)<|(Qm)<|(Qm) ?_
  refine e_storeA (i := 1) (Uz 36) rfl rfl (arrv_size _ _) (cells_one ⟨fun _ => rfl, fun _ => rfl, fun _ => h1.1, fun _ => h1.2.1, fun _ => h1.2.2.1, fun _ => h1.2.2.2.1, fun _ => rfl, fun _ => rfl, fun _ => rfl, fun _ => rfl, fun _ => rfl, fun _ => rfl, fun _ => rfl, fun _ => rfl, fun _ => rfl, fun _ => rfl, fun _ => rfl, fun _ => rfl, fun _ => rfl, fun _ => rfl, fun _ => rfl, fun _ => h1.2.2.2.2, fun _ => rfl, trivial⟩) rfl cells_sz (.inl rfl) ?_
  refine (Qa)<|(Qa)<|Qn<|Qr ?_
  exact ⟨_, _, _, _, _, 2, rfl, .cell (i := 1) rfl rfl (Uu 36) rfl (Uz 36) (arrv_size _ _), .tmp rfl, .tmp rfl, ho1_1, rfl⟩
set_option maxHeartbeats 2000000 in
theorem dshopen_err (hO : DOR ∈ G) (b : List Nat) (l : Bool) (vp v0 v1 vt : Value) (fi : Bool) (tn : Int) (dd : Bool) (y : SY) (r : RS) (ow : Nat → Nat) (vk : Value) (us : Int) (h1 : ones vp v0 v1 vt vk) (hy : okY y) (vx : Value) (tx : List Nat) (hvt : Sh G vx tx) (htb : ∀ b ∈ tx, b < 256) (w : Nat × SY × List Nat) (hw : openP y tx = w) (he : w.1 ≠ 0) : Fn Tryz.prog G 39 #[.agg (shC b l vp v0 v1 vt fi tn dd y ow r vk us), vx] (.tuple #[.agg (shC b l vp v0 v1 vt fi tn dd w.2.1 ow r vk us), nilS, ii w.1]) := by
  refine Qf3 Tryz.func39 ?_
  refine Qs<|Qp<|(Qh 0) fun r1=>(QH 1) fun r2=>(Qa)<|(Qa)<|Qn<|Qs<|Qp<|(Qf 9) ?_
  refine e_ldK (i := 0) 9 5 (Uu 33 rfl) rfl (Uz 33 rfl) rfl rfl rfl rfl (by decide) rfl ⟨[], trivial⟩ ?_
  refine e_as (show _ = SVy y from rfl) ?_
  refine (Qm) ?_
  refine e_call rfl (Un 66) ((dopenA hO y hy vx tx hvt htb w hw).1 he) rfl rfl ?_
  refine (Qm)<|(Qx)<|(Qx)<|(Qx)<|(QH 2) fun r3=>?_
  refine e_storeA (i := 2) (Uz 33) rfl rfl (arrv_size _ _) (cells_one ⟨fun _ => rfl, fun _ => rfl, fun _ => rfl, fun _ => rfl, fun _ => rfl, trivial⟩) rfl cells_sz (.inl rfl) ?_
  refine (Qa)<|(Qa)<|Qn<|Qs<|Qp<|(QD 2)<|(Qf 9) ?_
  refine e_stK (i := 0) 9 5 (Uz 33 rfl) rfl rfl ⟨fun _ => rfl, fun _ => rfl, fun _ => rfl, fun _ => rfl, fun _ => rfl, trivial⟩ rfl rfl rfl rfl (by decide) (.inl rfl) ?_
  refine e_blk (c' := shC b l vp v0 v1 vt fi tn dd w.2.1 ow r vk us) rfl ?_
  refine Qn<|Qs<|Qp<|(QD 0)<|(Qm)<|(Qm) ?_
  refine e_storeA (i := 1) (Uz 36) rfl rfl (arrv_size _ _) (cells_one ⟨fun _ => rfl, fun _ => rfl, fun _ => h1.1, fun _ => h1.2.1, fun _ => h1.2.2.1, fun _ => h1.2.2.2.1, fun _ => rfl, fun _ => rfl, fun _ => rfl, fun _ => rfl, fun _ => rfl, fun _ => rfl, fun _ => rfl, fun _ => rfl, fun _ => rfl, fun _ => rfl, fun _ => rfl, fun _ => rfl, fun _ => rfl, fun _ => rfl, fun _ => rfl, fun _ => h1.2.2.2.2, fun _ => rfl, trivial⟩) rfl cells_sz (.inl rfl) ?_
  refine (Qa)<|(Qa)<|Qn<|Qr ?_
  exact ⟨_, _, _, rfl, .cell (i := 1) rfl rfl (Uu 36) rfl (Uz 36) (arrv_size _ _), .tmp rfl, .tmp rfl⟩
set_option maxHeartbeats 2000000 in
theorem dshopen_ok (hO : DOR ∈ G) (b : List Nat) (l : Bool) (vp v0 v1 vt : Value) (fi : Bool) (tn : Int) (dd : Bool) (y : SY) (r : RS) (ow : Nat → Nat) (vk : Value) (us : Int) (h1 : ones vp v0 v1 vt vk) (hy : okY y) (vx : Value) (tx : List Nat) (hvt : Sh G vx tx) (htb : ∀ b ∈ tx, b < 256) (w : Nat × SY × List Nat) (hw : openP y tx = w) (htl : tx.length ≤ 100000) (he : w.1 = 0) : Fx Tryz.prog G [] 39 #[.agg (shC b l vp v0 v1 vt fi tn dd y ow r vk us), vx] (fun v l1 nw => l1 = [] ∧ ∃ v', v = .tuple #[.agg (shC b l vp v0 v1 vt fi tn dd w.2.1 ow r vk us), v', ii 0] ∧ OwnS 5 1 v' w.2.2.length (w.2.2.map by8) nw) := by
  have hwl : w.2.2.length ≤ tx.length + 16 := by rw [← hw]; have := openP_len y tx; omega
  refine QfO Tryz.func39 ?_
  refine Qs<|Qp<|(Qh 0) fun r1=>(QH 1) fun r2=>(Qa)<|(Qa)<|Qn<|Qs<|QR ⟨[], 4, [], none⟩<|(Qf 9) ?_
  refine e_ldK (i := 0) 9 5 (Uu 33 rfl) rfl (Uz 33 rfl) rfl rfl rfl rfl (by decide) rfl ⟨[], trivial⟩ ?_
  refine e_as (show _ = SVy y from rfl) ?_
  refine (Qm) ?_
  refine e_callN 2 (fun v => .tuple #[SVy w.2.1, v, ii 0]) rfl rfl (Un 66) seenG ((dopenA hO y hy vx tx hvt htb w hw).2 he) (by simp only [maxLen]; omega) (by rw [List.length_map, Nat.mul_one]) rfl rfl fun v1_1 oz1_1 ho1_1 => ?_
  refine (Qm)<|(Qx)<|(Qx)<|(Qx)<|(QH 3) fun r4=>?_
  refine e_storeA (i := 3) (Uz 33) rfl rfl (arrv_size _ _) (cells_one ⟨fun _ => rfl, fun _ => rfl, fun _ => rfl, fun _ => rfl, fun _ => rfl, trivial⟩) rfl cells_sz (.inl rfl) ?_
  refine (Qa)<|(Qa)<|Qn<|Qs<|Qp<|(QD 3)<|(Qf 9) ?_
  refine e_stK (i := 0) 9 5 (Uz 33 rfl) rfl rfl ⟨fun _ => rfl, fun _ => rfl, fun _ => rfl, fun _ => rfl, fun _ => rfl, trivial⟩ rfl rfl rfl rfl (by decide) (.inl rfl) ?_
  refine e_blk (c' := shC b l vp v0 v1 vt fi tn dd w.2.1 ow r vk us) rfl ?_
  refine Qn<|Qs<|Qp<|(QD 0)<|(Qm)<|(Qm) ?_
  refine e_storeA (i := 1) (Uz 36) rfl rfl (arrv_size _ _) (cells_one ⟨fun _ => rfl, fun _ => rfl, fun _ => h1.1, fun _ => h1.2.1, fun _ => h1.2.2.1, fun _ => h1.2.2.2.1, fun _ => rfl, fun _ => rfl, fun _ => rfl, fun _ => rfl, fun _ => rfl, fun _ => rfl, fun _ => rfl, fun _ => rfl, fun _ => rfl, fun _ => rfl, fun _ => rfl, fun _ => rfl, fun _ => rfl, fun _ => rfl, fun _ => rfl, fun _ => h1.2.2.2.2, fun _ => rfl, trivial⟩) rfl cells_sz (.inl rfl) ?_
  refine (Qa)<|(Qa)<|Qn<|Qr ?_
  exact ⟨_, _, _, _, _, 2, rfl, .cell (i := 1) rfl rfl (Uu 36) rfl (Uz 36) (arrv_size _ _), .tmp rfl, .tmp rfl, ho1_1, rfl⟩
end Go.Proofs.YthljakcegoohlabGreatDoor
namespace Go.Proofs.YthljakcegoohlabGreatDoor
open Go Go.RowKit
variable {G : Mem}
set_option maxHeartbeats 4000000 in
theorem tell_e (hO : DOR ∈ G) (b : List Nat) (l : Bool) (vp v0 v1 vt : Value) (fi : Bool) (tn : Int) (dd : Bool) (y : SY) (r : RS) (ow : Nat → Nat) (vk : Value) (us : Nat) (ps : List (Nat → Nat)) (hk : Shows G 32 vk ps.length (psC ps)) (hp : okP ps) (h1 : ones vp v0 v1 vt vk) (hy : okY y) (hr : okR r) (ho : B32 ow) (sc : Nat → Nat) (hs : B32 sc) : Fx Tryz.prog G [] 36 #[.agg (shC b l vp v0 v1 vt fi tn dd y ow r vk ((us : Nat) : Int)), ii 1, .agg (arr .u8 32 sc)] (fun v l1 nw => l1 = [] ∧ ∃ v', v = .tuple #[.agg (shC b l vp v0 v1 vt fi tn dd (freshP (npk ps) y (pubK sc)) ow (sc, true, r.2.2) vk ((us : Nat) : Int)), v', ii 0] ∧ OwnS 28 1 v' (ky (pubK sc)).length ((ky (pubK sc)).map by8) nw) := by
  have _u1 := hp
  have _u2 := hr
  have _u3 := ho
  obtain ⟨z, hz⟩ : ∃ z, z = freshP (npk ps) y (pubK sc) := ⟨_, rfl⟩
  rw [← hz]
  refine QfO Tryz.func36 ?_
  refine Qs<|Qp<|(Qh 0) fun r1=>(Qh 1) fun r2=>(QH 2) fun r3=>(Qa)<|(Qa)<|Qn<|Qs<|Qs<|Qp<|(Qm)<|Qn<|Qb<|Qs<|Qp<|(Qc)<|(Qa)<|Qn ?_
  refine e_cond rfl ?_ ?_
  · intro hc0
    refine Qs<|Qp<|(QD 0)<|(Qd 1) ?_
    refine e_call rfl (Un 52) (fresh_fn hO b l vp v0 v1 vt fi tn dd y r ow vk us sc ps hk h1 hy hs) rfl rfl ?_
    refine e_as (show _ = Value.tuple #[.agg (shC b l vp v0 v1 vt fi tn dd z ow (sc, true, r.2.2) vk ((us : Nat) : Int)), .agg (arr .u8 32 (pubK sc))] by rw [hz]) ?_
    refine (Qm)<|(Qx)<|(Qx)<|(QH 3) fun r4=>(QH 4) fun r5=>?_
    refine e_storeA (i := 3) (Uz 36) rfl rfl (arrv_size _ _) (cells_one ⟨fun _ => rfl, fun _ => rfl, fun _ => h1.1, fun _ => h1.2.1, fun _ => h1.2.2.1, fun _ => h1.2.2.2.1, fun _ => rfl, fun _ => rfl, fun _ => rfl, fun _ => rfl, fun _ => rfl, fun _ => rfl, fun _ => rfl, fun _ => rfl, fun _ => rfl, fun _ => rfl, fun _ => rfl, fun _ => rfl, fun _ => rfl, fun _ => rfl, fun _ => rfl, fun _ => h1.2.2.2.2, fun _ => rfl, trivial⟩) rfl cells_sz (.inl rfl) ?_
    refine (Qt 4)<|Qn<|Qs<|(Qq ⟨[r3], 1, [], none⟩) ?_
    refine e_loadA (i := 3) (Uu 36) rfl (Uz 36) rfl rfl (arrv_size _ _) rfl ⟨[2], rfl, rfl, trivial⟩ ?_
    refine e_sliceA 0 32 (Uu 28) (Uz 5) rfl rfl rfl rfl rfl (by omega) (by omega) (by omega) rfl ?_
    refine e_storeA (i := 2) (Uz 36) rfl rfl (arrv_size _ _) (cells_one ⟨fun _ => rfl, fun _ => rfl, fun _ => h1.1, fun _ => h1.2.1, fun _ => h1.2.2.1, fun _ => h1.2.2.2.1, fun _ => rfl, fun _ => rfl, fun _ => rfl, fun _ => rfl, fun _ => rfl, fun _ => rfl, fun _ => rfl, fun _ => rfl, fun _ => rfl, fun _ => rfl, fun _ => rfl, fun _ => rfl, fun _ => rfl, fun _ => rfl, fun _ => rfl, fun _ => h1.2.2.2.2, fun _ => rfl, trivial⟩) rfl cells_sz (.inr (by simp)) ?_
    refine (Qa)<|(Qa)<|Qn<|Qr ?_
    exact ⟨_, _, _, _, _, 4, rfl, .cell (i := 2) rfl rfl (Uu 36) rfl (Uz 36) (arrv_size _ _), .tmp rfl, .tmp rfl, (own_fix (own_made (l := ky (pubK sc)) (ky_len _) (by decide) (fun j hj => (ky_get hj).symm)) (by simp) rfl), rfl⟩
  · intro hc0
    exact absurd hc0 (by decide)
set_option maxHeartbeats 4000000 in
theorem tell_s_ok (hO : DOR ∈ G) (b : List Nat) (l : Bool) (vp v0 v1 vt : Value) (fi : Bool) (tn : Int) (dd : Bool) (y : SY) (r : RS) (ow : Nat → Nat) (vk : Value) (us : Nat) (ps : List (Nat → Nat)) (hk : Shows G 32 vk ps.length (psC ps)) (hp : okP ps) (h1 : ones vp v0 v1 vt vk) (hy : okY y) (hr : okR r) (ho : B32 ow) (sc : Nat → Nat) (hs : B32 sc) (w : Nat × SY × List Nat) (hw : sealP y (ky (pubK ow)) = w) (he : w.1 = 0) : Fx Tryz.prog G [] 36 #[.agg (shC b l vp v0 v1 vt fi tn dd y ow r vk ((us : Nat) : Int)), ii 2, .agg (arr .u8 32 sc)] (fun v l1 nw => l1 = [] ∧ ∃ v', v = .tuple #[.agg (shC b l vp v0 v1 vt fi tn dd w.2.1 ow r vk ((us : Nat) : Int)), v', ii 0] ∧ OwnS 5 1 v' w.2.2.length (w.2.2.map by8) nw) := by
  have _u1 := hp
  have _u2 := hr
  have _u3 := hs
  have _u4 := hk
  have hwl : w.2.2.length ≤ 48 := by rw [← hw]; have := sealP_len y (ky (pubK ow)); rw [ky_len] at this; exact this
  refine QfO Tryz.func36 ?_
  refine Qs<|Qp<|(Qh 0) fun r1=>(Qh 1) fun r2=>(QH 2) fun r3=>(Qa)<|(Qa)<|Qn<|Qs<|Qs<|Qp<|(Qm)<|Qn<|Qb<|Qs<|Qp<|(Qc)<|(Qa)<|Qn ?_
  refine e_cond rfl ?_ ?_
  · intro hc0
    exact absurd hc0 (by decide)
  · intro hc0
    refine Qs<|Qp<|(Qc)<|(Qa)<|Qn ?_
    refine e_cond rfl ?_ ?_
    · intro hc1
      refine Qs<|Qp<|(Qf 107)<|(Qv 14 0) ?_
      refine e_call rfl (Un 5) (lbase_fn ow ho) rfl rfl ?_
      refine e_as (show _ = Value.agg (arr .u8 32 (pubK ow)) from rfl) ?_
      refine (QH 3) fun r4=>(Qt 3)<|Qn<|Qs<|(Qq ⟨[], 4, [], none⟩)<|(QD 0) ?_
      refine e_sliceA 0 32 (Uu 28) (Uz 5) rfl rfl rfl rfl rfl (by omega) (by omega) (by omega) rfl ?_
      refine e_callN 4 (fun v => .tuple #[.agg (shC b l vp v0 v1 vt fi tn dd w.2.1 ow r vk ((us : Nat) : Int)), v, ii 0]) rfl rfl (Un 37) (seen_app seenG (seen1 3 rfl ⟨[], trivial⟩)) (dshseal_ok (G := G ++ [(⟨r4, arr .u8 32 (pubK ow), 28⟩ : Blk)]) (List.mem_append_left _ hO) b l vp v0 v1 vt fi tn dd y r ow vk us h1 hy _ (ky (pubK ow)) ((shows32 _ (pubK ow) _).mono (fun x h => List.mem_append_right _ h)) (ky_lt (pubK_lt ow)) w hw (by simp) he) (by simp only [maxLen]; omega) (by rw [List.length_map, Nat.mul_one]) rfl rfl fun v3_1 oz3_1 ho3_1 => ?_
      refine (Qx)<|(Qx)<|(Qx) ?_
      refine e_storeA (i := 2) (Uz 36) rfl rfl (arrv_size _ _) (cells_one ⟨fun _ => rfl, fun _ => rfl, fun _ => h1.1, fun _ => h1.2.1, fun _ => h1.2.2.1, fun _ => h1.2.2.2.1, fun _ => rfl, fun _ => rfl, fun _ => rfl, fun _ => rfl, fun _ => rfl, fun _ => rfl, fun _ => rfl, fun _ => rfl, fun _ => rfl, fun _ => rfl, fun _ => rfl, fun _ => rfl, fun _ => rfl, fun _ => rfl, fun _ => rfl, fun _ => h1.2.2.2.2, fun _ => rfl, trivial⟩) rfl cells_sz (.inl rfl) ?_
      refine (Qa)<|(Qa)<|Qn<|Qr ?_
      exact ⟨_, _, _, _, _, 4, rfl, .cell (i := 2) rfl rfl (Uu 36) rfl (Uz 36) (arrv_size _ _), .tmp rfl, .tmp rfl, ho3_1, rfl⟩
    · intro hc1
      exact absurd hc1 (by decide)
set_option maxHeartbeats 4000000 in
theorem tell_s_err (hO : DOR ∈ G) (b : List Nat) (l : Bool) (vp v0 v1 vt : Value) (fi : Bool) (tn : Int) (dd : Bool) (y : SY) (r : RS) (ow : Nat → Nat) (vk : Value) (us : Nat) (ps : List (Nat → Nat)) (hk : Shows G 32 vk ps.length (psC ps)) (hp : okP ps) (h1 : ones vp v0 v1 vt vk) (hy : okY y) (hr : okR r) (ho : B32 ow) (sc : Nat → Nat) (hs : B32 sc) (w : Nat × SY × List Nat) (hw : sealP y (ky (pubK ow)) = w) (he : w.1 ≠ 0) : Fn Tryz.prog G 36 #[.agg (shC b l vp v0 v1 vt fi tn dd y ow r vk ((us : Nat) : Int)), ii 2, .agg (arr .u8 32 sc)] (.tuple #[.agg (shC b l vp v0 v1 vt fi tn dd w.2.1 ow r vk ((us : Nat) : Int)), nilS, ii w.1]) := by
  have _u1 := hp
  have _u2 := hr
  have _u3 := hs
  have _u4 := hk
  refine Qf3 Tryz.func36 ?_
  refine Qs<|Qp<|(Qh 0) fun r1=>(Qh 1) fun r2=>(QH 2) fun r3=>(Qa)<|(Qa)<|Qn<|Qs<|Qs<|Qp<|(Qm)<|Qn<|Qb<|Qs<|Qp<|(Qc)<|(Qa)<|Qn ?_
  refine e_cond rfl ?_ ?_
  · intro hc0
    exact absurd hc0 (by decide)
  · intro hc0
    refine Qs<|Qp<|(Qc)<|(Qa)<|Qn ?_
    refine e_cond rfl ?_ ?_
    · intro hc1
      refine Qs<|Qp<|(Qf 107)<|(Qv 14 0) ?_
      refine e_call rfl (Un 5) (lbase_fn ow ho) rfl rfl ?_
      refine e_as (show _ = Value.agg (arr .u8 32 (pubK ow)) from rfl) ?_
      refine (QH 3) fun r4=>(Qt 3)<|Qn<|Qs<|(Qg)<|(QD 0) ?_
      refine e_sliceA 0 32 (Uu 28) (Uz 5) rfl rfl rfl rfl rfl (by omega) (by omega) (by omega) rfl ?_
      refine e_callS rfl rfl (Un 37) (seen_app seenG (seen1 3 rfl ⟨[], trivial⟩)) (dshseal_err (G := G ++ [(⟨r4, arr .u8 32 (pubK ow), 28⟩ : Blk)]) (List.mem_append_left _ hO) b l vp v0 v1 vt fi tn dd y r ow vk us h1 hy _ (ky (pubK ow)) ((shows32 _ (pubK ow) _).mono (fun x h => List.mem_append_right _ h)) (ky_lt (pubK_lt ow)) w hw he) rfl rfl ?_
      refine (Qx)<|(Qx)<|(Qx) ?_
      refine e_storeA (i := 2) (Uz 36) rfl rfl (arrv_size _ _) (cells_one ⟨fun _ => rfl, fun _ => rfl, fun _ => h1.1, fun _ => h1.2.1, fun _ => h1.2.2.1, fun _ => h1.2.2.2.1, fun _ => rfl, fun _ => rfl, fun _ => rfl, fun _ => rfl, fun _ => rfl, fun _ => rfl, fun _ => rfl, fun _ => rfl, fun _ => rfl, fun _ => rfl, fun _ => rfl, fun _ => rfl, fun _ => rfl, fun _ => rfl, fun _ => rfl, fun _ => h1.2.2.2.2, fun _ => rfl, trivial⟩) rfl cells_sz (.inl rfl) ?_
      refine (Qa)<|(Qa)<|Qn<|Qr ?_
      exact ⟨_, _, _, rfl, .cell (i := 2) rfl rfl (Uu 36) rfl (Uz 36) (arrv_size _ _), .tmp rfl, .tmp rfl⟩
    · intro hc1
      exact absurd hc1 (by decide)
set_option maxHeartbeats 2000000 in
theorem tell_x (hO : DOR ∈ G) (b : List Nat) (l : Bool) (vp v0 v1 vt : Value) (fi : Bool) (tn : Int) (dd : Bool) (y : SY) (r : RS) (ow : Nat → Nat) (vk : Value) (us : Nat) (ps : List (Nat → Nat)) (hk : Shows G 32 vk ps.length (psC ps)) (hp : okP ps) (h1 : ones vp v0 v1 vt vk) (hy : okY y) (hr : okR r) (ho : B32 ow) (sc : Nat → Nat) (hs : B32 sc) (t : Nat) (h3 : 3 ≤ t) (h7 : t ≤ 7) (w : Nat × SS) (hw : bothT fi ow ps t (y, r, us) = w) : Fn Tryz.prog G 36 #[.agg (shC b l vp v0 v1 vt fi tn dd y ow r vk ((us : Nat) : Int)), ii t, .agg (arr .u8 32 sc)] (.tuple #[.agg (shC b l vp v0 v1 vt fi tn dd w.2.1 ow w.2.2.1 vk ((w.2.2.2 : Nat) : Int)), nilS, ii w.1]) := by
  have _u1 := hs
  refine Qf3 Tryz.func36 ?_
  refine Qs<|Qp<|(Qh 0) fun r1=>(Qh 1) fun r2=>(QH 2) fun r3=>(Qa)<|(Qa)<|Qn<|Qs<|Qs<|Qp<|(Qm)<|Qn<|Qb<|Qs<|Qp<|(Qc)<|(Qa)<|Qn ?_
  refine e_cond rfl ?_ ?_
  · intro hc0
    exact absurd (of_decide_eq_true hc0) (by omega)
  · intro hc0
    refine Qs<|Qp<|(Qc)<|(Qa)<|Qn ?_
    refine e_cond rfl ?_ ?_
    · intro hc1
      exact absurd (of_decide_eq_true hc1) (by omega)
    · intro hc1
      refine Qk<|Qs<|Qp<|(QD 0)<|(Qm) ?_
      refine e_call rfl (Un 63) (dmix_fn hO b l vp v0 v1 vt fi tn dd y r ow vk us ps hk hp h1 hy hr ho t h3 h7 w hw) rfl rfl ?_
      refine (Qm)<|(Qx)<|(Qx)<|(QH 3) fun r4=>?_
      refine e_storeA (i := 3) (Uz 36) rfl rfl (arrv_size _ _) (cells_one ⟨fun _ => rfl, fun _ => rfl, fun _ => h1.1, fun _ => h1.2.1, fun _ => h1.2.2.1, fun _ => h1.2.2.2.1, fun _ => rfl, fun _ => rfl, fun _ => rfl, fun _ => rfl, fun _ => rfl, fun _ => rfl, fun _ => rfl, fun _ => rfl, fun _ => rfl, fun _ => rfl, fun _ => rfl, fun _ => rfl, fun _ => rfl, fun _ => rfl, fun _ => rfl, fun _ => h1.2.2.2.2, fun _ => rfl, trivial⟩) rfl cells_sz (.inl rfl) ?_
      refine (Qa)<|Qn<|Qs<|Qp<|(QD 3)<|(Qm) ?_
      refine e_storeA (i := 2) (Uz 36) rfl rfl (arrv_size _ _) (cells_one ⟨fun _ => rfl, fun _ => rfl, fun _ => h1.1, fun _ => h1.2.1, fun _ => h1.2.2.1, fun _ => h1.2.2.2.1, fun _ => rfl, fun _ => rfl, fun _ => rfl, fun _ => rfl, fun _ => rfl, fun _ => rfl, fun _ => rfl, fun _ => rfl, fun _ => rfl, fun _ => rfl, fun _ => rfl, fun _ => rfl, fun _ => rfl, fun _ => rfl, fun _ => rfl, fun _ => h1.2.2.2.2, fun _ => rfl, trivial⟩) rfl cells_sz (.inl rfl) ?_
      refine (Qa)<|(Qa)<|Qn<|Qr ?_
      exact ⟨_, _, _, rfl, .cell (i := 2) rfl rfl (Uu 36) rfl (Uz 36) (arrv_size _ _), .tmp rfl, .tmp rfl⟩
end Go.Proofs.YthljakcegoohlabGreatDoor
namespace Go.Proofs.YthljakcegoohlabGreatDoor
open Go Go.RowKit
theorem tellA {G : Mem} (hO : DOR ∈ G) (b : List Nat) (l : Bool) (vp v0 v1 vt : Value) (fi : Bool) (tn : Int) (dd : Bool) (y : SY) (r : RS) (ow : Nat → Nat) (vk : Value) (us : Nat) (ps : List (Nat → Nat)) (hk : Shows G 32 vk ps.length (psC ps)) (hp : okP ps) (h1 : ones vp v0 v1 vt vk) (hy : okY y) (hr : okR r) (ho : B32 ow) (sc : Nat → Nat) (hs : B32 sc) (t : Nat) (h1t : 1 ≤ t) (h7 : t ≤ 7) (w : Nat × SS × List Nat) (hw : tokW fi ow ps sc t (y, r, us) = w) :
    (w.1 = 0 → Fx Tryz.prog G [] 36 #[.agg (shC b l vp v0 v1 vt fi tn dd y ow r vk ((us : Nat) : Int)), ii t, .agg (arr .u8 32 sc)] (fun v l1 nw => l1 = [] ∧ ∃ v', v = .tuple #[.agg (shC b l vp v0 v1 vt fi tn dd w.2.1.1 ow w.2.1.2.1 vk ((w.2.1.2.2 : Nat) : Int)), v', ii 0] ∧ Shows nw 1 v' w.2.2.length (w.2.2.map by8))) ∧ (w.1 ≠ 0 → Fn Tryz.prog G 36 #[.agg (shC b l vp v0 v1 vt fi tn dd y ow r vk ((us : Nat) : Int)), ii t, .agg (arr .u8 32 sc)] (.tuple #[.agg (shC b l vp v0 v1 vt fi tn dd w.2.1.1 ow w.2.1.2.1 vk ((w.2.1.2.2 : Nat) : Int)), nilS, ii w.1])) := by
  by_cases t1 : t = 1
  · subst t1
    obtain rfl : w = (0, (freshP (npk ps) y (pubK sc), (sc, true, r.2.2), us), ky (pubK sc)) := by rw [← hw]; exact tokW_e
    exact ⟨fun _ => (tell_e hO b l vp v0 v1 vt fi tn dd y r ow vk us ps hk hp h1 hy hr ho sc hs).imp fun v l1 nw ⟨h1, v', h2, h3⟩ => ⟨h1, v', h2, h3.shows⟩, fun h => absurd rfl h⟩
  by_cases t2 : t = 2
  · subst t2
    obtain ⟨z, hz⟩ : ∃ z, sealP y (ky (pubK ow)) = z := ⟨_, rfl⟩
    obtain rfl : w = (z.1, (z.2.1, r, us), z.2.2) := by rw [← hw]; exact tokW_s hz
    exact ⟨fun h => (tell_s_ok hO b l vp v0 v1 vt fi tn dd y r ow vk us ps hk hp h1 hy hr ho sc hs z hz h).imp fun v l1 nw ⟨h1, v', h2, h3⟩ => ⟨h1, v', h2, h3.shows⟩, fun h => tell_s_err hO b l vp v0 v1 vt fi tn dd y r ow vk us ps hk hp h1 hy hr ho sc hs z hz h⟩
  obtain ⟨z, hz⟩ : ∃ z, bothT fi ow ps t (y, r, us) = z := ⟨_, rfl⟩
  obtain rfl : w = (z.1, z.2, []) := by rw [← hw]; exact tokW_x (by omega) hz
  have hX := tell_x hO b l vp v0 v1 vt fi tn dd y r ow vk us ps hk hp h1 hy hr ho sc hs t (by omega) h7 z hz
  refine ⟨fun h => hX.fx.imp fun v l1 nw ⟨h2, h3, h4⟩ => ⟨h3, nilS, ?_, ?_⟩, fun _ => hX⟩
  · rw [h2]
    have h9 : z.1 = 0 := h
    rw [h9]
  · rw [h4]; exact shows_nil _ 1
variable {G : Mem}
end Go.Proofs.YthljakcegoohlabGreatDoor
namespace Go.Proofs.YthljakcegoohlabGreatDoor
open Go Go.RowKit
variable {G : Mem}
set_option maxHeartbeats 8000000 in
theorem written_fn (hO : DOR ∈ G) (b : List Nat) (l : Bool) (vp v0 v1 vt : Value) (fi : Bool) (tq : Nat) (dd : Bool) (y : SY) (r : RS) (ow : Nat → Nat) (vk : Value) (us : Nat) (ps : List (Nat → Nat)) (hk : Shows G 32 vk ps.length (psC ps)) (hp : okP ps) (h1 : ones vp v0 v1 vt vk) (hy : okY y) (hr : okR r) (ho : B32 ow) (sc : Nat → Nat) (hs : B32 sc) (q : List Nat) (tvs : List Value) (hvt : Shows G 1 vt tvs.length tvs) (htl : tq < tvs.length) (hq : Shows G 1 (tvs.getD tq undef) q.length ((ci q).map iv)) (hq7 : ∀ x ∈ q, 1 ≤ x ∧ x ≤ 7) (hq6 : q.length ≤ 6) (vx : Value) (tx : List Nat) (hvt2 : Sh G vx tx) (htb : ∀ b ∈ tx, b < 256) (htx : tx.length ≤ 100000) (w : Nat × SS × List Nat) (hw : turnW fi ow ps sc q (y, r, us) tx = w) : Fx Tryz.prog G [] 18 #[.agg (shC b l vp v0 v1 vt fi ((tq : Nat) : Int) dd y ow r vk ((us : Nat) : Int)), .agg (arr .u8 32 sc), vx] (fun v l1 nw => l1 = [] ∧ ∃ v', v = .tuple #[.agg (shC b l vp v0 v1 vt fi ((tq : Nat) : Int) dd w.2.1.1 ow w.2.1.2.1 vk ((w.2.1.2.2 : Nat) : Int)), v', ii w.1] ∧ OwnS 5 1 v' w.2.2.length (w.2.2.map by8) nw) := by
  refine QfO Tryz.func18 ?_
  refine Qs<|Qp<|(Qh 0) fun r1=>(Qh 1) fun r2=>(QH 2) fun r3=>(Qa)<|(Qa)<|Qn<|Qs<|Qp<|(Qa)<|Qn<|Qs<|Qs<|Qp<|(Qf 0)<|(Qf 5)<|(QV 5 0)<|(Qf 7)<|(QV 7 0) ?_
  refine e_atV hvt (Uu 25) (Uz 23) rfl rfl (by omega) rfl ?_
  refine (QS) ?_
  refine e_loadV hvt seenG (Uu 23) rfl rfl (get_getD (by omega)) rfl ?_
  refine (QC hq)<|(Qm)<|Qn<|Qb ?_
  refine e_loopB [(2, _), (3, _), (4, _), (6, _), (22, _), (23, _)] [(1, _), (2, _)] (fun kk E m fz => ∃ (i : Nat) (y1 : SY) (r1v : RS) (u1 : Nat) (out : List Nat) (w4 : Value) (oz : Option Blk), kk = q.length - i ∧ E = [(9, w4), (24, ii i)] ∧ m = [(0, (some ⟨r1, shC b l vp v0 v1 vt fi ((tq : Nat) : Int) dd y1 ow r1v vk ((u1 : Nat) : Int), 36⟩)), (50, oz), (51, none)] ∧ (i ≤ q.length) ∧ (OwnS 5 1 w4 out.length (out.map by8) (Option.toList oz)) ∧ (okS (y1, r1v, u1)) ∧ (runW fi ow ps sc q (y, r, us) [] = runW fi ow ps sc (q.drop i) (y1, r1v, u1) out) ∧ (out.length ≤ 48 * i)) (k := q.length - 0) (E0 := [(9, nilS), (24, ii 0)]) (M0 := [(0, (some ⟨r1, shC b l vp v0 v1 vt fi ((tq : Nat) : Int) dd y ow r vk ((us : Nat) : Int), 36⟩)), (50, none), (51, none)]) (fz := []) ⟨0, y, r, us, [], nilS, none, rfl, rfl, rfl, by omega, (own_nil _ _), ⟨hy, hr⟩, rfl, (by simp)⟩ ⟨rfl, rfl, rfl, rfl, rfl, rfl, rfl, rfl, trivial⟩ ⟨rfl, rfl, rfl, rfl, rfl, trivial⟩ (by repeat (first | exact bag_nil | exact bag_lab _ | apply bag_skip rfl)) ?_
  rintro kk E m fz ⟨i, y1, r1v, u1, out, w4, oz, rfl, rfl, rfl, hf0_0, hf0_1, hf0_2, hf0_3, hf0_4⟩
  simp only [catE, catL]
  refine Qs<|Qp<|(Ql)<|Qn<|Qs ?_
  refine e_cond rfl ?_ ?_
  · intro hc0
    have hc0 : i < q.length := by have := of_decide_eq_true hc0; omega
    refine Qk<|Qs<|Qb<|Qs<|Qp ?_
    refine e_atV hq (Uu 23) (Uz 3) rfl rfl (by omega) rfl ?_
    refine (QS) ?_
    refine e_loadV hq seenG (Uu 3) rfl rfl (ci_at (by omega)) rfl ?_
    refine (Qa)<|Qn ?_
    have hx9 := tok_in hq7 (show i < q.length by omega)
    obtain ⟨z, hz⟩ : ∃ z, tokW fi ow ps sc (q.getD i 0) (y1, r1v, u1) = z := ⟨_, rfl⟩
    have hzl : z.2.2.length ≤ 48 := by rw [← hz]; exact tokW_len
    have hst : z.1 ≠ 0 → w = (z.1, z.2.1, []) := fun he => by rw [← hw]; exact turnW_stop (hf0_3.trans (runW_stop (by omega) hz he)) he
    refine Qs<|Qp<|(Qa)<|Qn<|Qs<|Qp<|(Qa)<|Qn<|Qs ?_
    by_cases he : z.1 = 0
    · skip
      refine QR ⟨[], 4, [], none⟩<|(QD 0)<|(Qm)<|(Qd 1) ?_
      refine e_callD [(0, _), (1, _), (2, _), (50, _), (51, _)] (by repeat (first | exact bag_nil | exact bag_lab _ | apply bag_skip rfl)) ⟨rfl, rfl, rfl, rfl, rfl, trivial⟩ rfl rfl rfl (Un 36) seenG ((tellA hO b l vp v0 v1 vt fi ((tq : Nat) : Int) dd y1 r1v ow vk u1 ps hk hp h1 hf0_2.1 hf0_2.2 ho sc hs (q.getD i 0) hx9.1 hx9.2 z hz).1 he) (bytes_room (fun v' => .tuple #[.agg (shC b l vp v0 v1 vt fi ((tq : Nat) : Int) dd z.2.1.1 ow z.2.1.2.1 vk ((z.2.1.2.2 : Nat) : Int)), v', ii 0]) z.2.2) rfl rfl fun v3_1 nw3_1 hD3_1 => ?_
      simp only [catL]
      obtain ⟨v9, rfl, hv9⟩ := hD3_1
      have hv9 := Shows.mono (B' := fz ++ nw3_1) hv9 (fun x hx => List.mem_append_right _ hx)
      refine (Qm)<|(Qx)<|(Qx)<|(Qx) ?_
      refine e_storeA (i := 0) (Uz 36) rfl rfl (arrv_size _ _) (cells_one ⟨fun _ => rfl, fun _ => rfl, fun _ => h1.1, fun _ => h1.2.1, fun _ => h1.2.2.1, fun _ => h1.2.2.2.1, fun _ => rfl, fun _ => rfl, fun _ => rfl, fun _ => rfl, fun _ => rfl, fun _ => rfl, fun _ => rfl, fun _ => rfl, fun _ => rfl, fun _ => rfl, fun _ => rfl, fun _ => rfl, fun _ => rfl, fun _ => rfl, fun _ => rfl, fun _ => h1.2.2.2.2, fun _ => rfl, trivial⟩) rfl cells_sz (.inl rfl) ?_
      refine (Qa)<|(Qa)<|Qn<|Qs<|Qs<|Qp<|(Qm)<|(QN) ?_
      refine e_as (congrArg Value.bool (decide_eq_false (by decide))) ?_
      refine Qn<|(Qcf)<|Qk<|Qp<|(Qm)<|(Qm) ?_
      refine e_append 50 hf0_1 hv9 rfl (seen_bag (by repeat (first | exact bag_nil | exact bag_lab _ | apply bag_skip rfl)) rfl) (Uu 41) (Uz 5) (Uy 5) (Ub 5) (by rfl) rfl rfl by8_one (by simp only [maxLen]; omega) (by omega) rfl fun v4_2 oz4_2 ho4_2 => ?_
      refine (Qa)<|Qn<|Qp<|(Q2 1)<|(Qm)<|Qn ?_
      refine e_round (E'' := [(9, _), (24, ii (i + 1))]) (M'' := [(0, (some ⟨r1, shC b l vp v0 v1 vt fi ((tq : Nat) : Int) dd _ ow _ vk ((_ : Nat) : Int), 36⟩)), (50, _), (51, none)]) (fz' := (fz ++ nw3_1)) ⟨i + 1, _, _, _, out ++ z.2.2, _, _, rfl, rfl, rfl, by omega, (own_fix ho4_2 (by rw [List.length_append]) (by rw [List.map_append])), (by rw [← hz]; exact okS_tokW hf0_2 hs), (hf0_3.trans (runW_next (by omega) (hz.trans (show z = (0, z.2.1, z.2.2) from Prod.ext he rfl)))), (by rw [List.length_append]; omega)⟩ ⟨rfl, rfl, rfl, rfl, rfl, rfl, rfl, rfl, trivial⟩ ⟨rfl, rfl, rfl, rfl, rfl, trivial⟩ (by repeat (first | exact bag_nil | exact bag_lab _ | apply bag_skip rfl)) (by omega)
    · skip
      refine Qp<|(QD 0)<|(Qm)<|(Qd 1) ?_
      refine e_call rfl (Un 36) ((tellA hO b l vp v0 v1 vt fi ((tq : Nat) : Int) dd y1 r1v ow vk u1 ps hk hp h1 hf0_2.1 hf0_2.2 ho sc hs (q.getD i 0) hx9.1 hx9.2 z hz).2 he) rfl rfl ?_
      refine (Qm)<|(Qx)<|(Qx)<|(Qx) ?_
      refine e_storeA (i := 0) (Uz 36) rfl rfl (arrv_size _ _) (cells_one ⟨fun _ => rfl, fun _ => rfl, fun _ => h1.1, fun _ => h1.2.1, fun _ => h1.2.2.1, fun _ => h1.2.2.2.1, fun _ => rfl, fun _ => rfl, fun _ => rfl, fun _ => rfl, fun _ => rfl, fun _ => rfl, fun _ => rfl, fun _ => rfl, fun _ => rfl, fun _ => rfl, fun _ => rfl, fun _ => rfl, fun _ => rfl, fun _ => rfl, fun _ => rfl, fun _ => h1.2.2.2.2, fun _ => rfl, trivial⟩) rfl cells_sz (.inl rfl) ?_
      refine (Qa)<|(Qa)<|Qn<|Qs<|Qs<|Qp<|(Qm)<|(QN)<|(Qat)<|Qn<|(Qct) ?_
      obtain rfl := hst he
      refine Qs<|Qp<|(QD 0)<|(Qm) ?_
      refine e_storeA (i := 2) (Uz 36) rfl rfl (arrv_size _ _) (cells_one ⟨fun _ => rfl, fun _ => rfl, fun _ => h1.1, fun _ => h1.2.1, fun _ => h1.2.2.1, fun _ => h1.2.2.2.1, fun _ => rfl, fun _ => rfl, fun _ => rfl, fun _ => rfl, fun _ => rfl, fun _ => rfl, fun _ => rfl, fun _ => rfl, fun _ => rfl, fun _ => rfl, fun _ => rfl, fun _ => rfl, fun _ => rfl, fun _ => rfl, fun _ => rfl, fun _ => h1.2.2.2.2, fun _ => rfl, trivial⟩) rfl cells_sz (.inl rfl) ?_
      refine (Qa)<|(Qa)<|Qn<|Qr ?_
      exact ⟨_, _, _, _, _, 51, rfl, .cell (i := 2) rfl rfl (Uu 36) rfl (Uz 36) (arrv_size _ _), .tmp rfl, .tmp rfl, (own_fix (own_nil _ _) (by first | rfl | rw [List.length_append]) (by first | rfl | rw [List.map_append])), rfl⟩
  · intro hc0
    have hc0 := of_decide_eq_false hc0
    have hz0 : i = q.length := by omega
    have hrun := hf0_3.trans (run_endW hz0)
    obtain ⟨e2, he2⟩ : ∃ e, sealP y1 tx = e := ⟨_, rfl⟩
    have hfin : w = (e2.1, (e2.2.1, r1v, u1), out ++ e2.2.2) := by rw [← hw]; exact turnW_fin hrun he2
    have hel : e2.2.2.length ≤ tx.length + 16 := by rw [← he2]; exact sealP_len y1 tx
    have hen : e2.1 ≠ 0 → e2.2.2 = [] := fun h => by rw [← he2] at h ⊢; exact sealP_nil h
    subst hfin
    refine Qe<|Qs ?_
    by_cases h0 : e2.1 = 0
    · skip
      refine QR ⟨[], 4, [], none⟩<|(QD 0)<|(Qm) ?_
      refine e_callN 3 (fun v => .tuple #[.agg (shC b l vp v0 v1 vt fi ((tq : Nat) : Int) dd e2.2.1 ow r1v vk ((u1 : Nat) : Int)), v, ii 0]) rfl rfl (Un 37) seenG (dshseal_ok hO b l vp v0 v1 vt fi ((tq : Nat) : Int) dd y1 r1v ow vk ((u1 : Nat) : Int) h1 hf0_2.1 vx tx hvt2 htb e2 he2 htx h0) (by simp only [maxLen]; omega) (by rw [List.length_map, Nat.mul_one]) rfl rfl fun v3_1 oz3_1 ho3_1 => ?_
      refine (Qm)<|(Qx)<|(Qx)<|(Qx) ?_
      refine e_storeA (i := 0) (Uz 36) rfl rfl (arrv_size _ _) (cells_one ⟨fun _ => rfl, fun _ => rfl, fun _ => h1.1, fun _ => h1.2.1, fun _ => h1.2.2.1, fun _ => h1.2.2.2.1, fun _ => rfl, fun _ => rfl, fun _ => rfl, fun _ => rfl, fun _ => rfl, fun _ => rfl, fun _ => rfl, fun _ => rfl, fun _ => rfl, fun _ => rfl, fun _ => rfl, fun _ => rfl, fun _ => rfl, fun _ => rfl, fun _ => rfl, fun _ => h1.2.2.2.2, fun _ => rfl, trivial⟩) rfl cells_sz (.inl rfl) ?_
      refine (Qa)<|(Qa)<|Qn<|Qs<|(Qq ⟨[r3], 1, [], (some ([r1] ++ List.map Blk.b (fz)))⟩) ?_
      refine e_loadA (i := 0) (Uu 36) rfl (Uz 36) rfl rfl (arrv_size _ _) rfl ⟨[2], ⟨rfl, rfl, trivial⟩, _, rfl, by simp⟩ ?_
      refine (Qm)<|(Qm) ?_
      refine e_appendL 50 hf0_1 ho3_1.shows rfl (any_opt 3 rfl) (off_bag (js := [0]) rfl (by repeat (first | exact bag_nil | exact bag_lab _ | apply bag_skip rfl)) ⟨rfl, rfl, trivial⟩) (Uu 41) (Uz 5) (Uy 5) (Ub 5) (by rfl) rfl rfl by8_one (by simp only [maxLen]; omega) (by omega) rfl fun v3_2 oz3_2 ho3_2 => ?_
      refine (Qm) ?_
      refine e_storeA (i := 2) (Uz 36) rfl rfl (arrv_size _ _) (cells_one ⟨fun _ => rfl, fun _ => rfl, fun _ => h1.1, fun _ => h1.2.1, fun _ => h1.2.2.1, fun _ => h1.2.2.2.1, fun _ => rfl, fun _ => rfl, fun _ => rfl, fun _ => rfl, fun _ => rfl, fun _ => rfl, fun _ => rfl, fun _ => rfl, fun _ => rfl, fun _ => rfl, fun _ => rfl, fun _ => rfl, fun _ => rfl, fun _ => rfl, fun _ => rfl, fun _ => h1.2.2.2.2, fun _ => rfl, trivial⟩) rfl cells_sz (.inr (by simp)) ?_
      refine (Qa)<|(Qa) ?_
      refine e_as (show _ = ii e2.1 by rw [h0]; rfl) ?_
      refine Qn<|Qr ?_
      exact ⟨_, _, _, _, _, 50, rfl, .cell (i := 2) rfl rfl (Uu 36) rfl (Uz 36) (arrv_size _ _), .tmp rfl, .tmp rfl, (own_fix ho3_2 (by first | rfl | rw [List.length_append]) (by first | rfl | rw [List.map_append])), rfl⟩
    · skip
      refine Qp<|(QD 0)<|(Qm) ?_
      refine e_call rfl (Un 37) (dshseal_err hO b l vp v0 v1 vt fi ((tq : Nat) : Int) dd y1 r1v ow vk ((u1 : Nat) : Int) h1 hf0_2.1 vx tx hvt2 htb e2 he2 h0) rfl rfl ?_
      refine (Qm)<|(Qx)<|(Qx)<|(Qx) ?_
      refine e_storeA (i := 0) (Uz 36) rfl rfl (arrv_size _ _) (cells_one ⟨fun _ => rfl, fun _ => rfl, fun _ => h1.1, fun _ => h1.2.1, fun _ => h1.2.2.1, fun _ => h1.2.2.2.1, fun _ => rfl, fun _ => rfl, fun _ => rfl, fun _ => rfl, fun _ => rfl, fun _ => rfl, fun _ => rfl, fun _ => rfl, fun _ => rfl, fun _ => rfl, fun _ => rfl, fun _ => rfl, fun _ => rfl, fun _ => rfl, fun _ => rfl, fun _ => h1.2.2.2.2, fun _ => rfl, trivial⟩) rfl cells_sz (.inl rfl) ?_
      refine (Qa)<|(Qa)<|Qn<|Qs<|(Qq ⟨[r3], 1, [], (some ([r1] ++ List.map Blk.b (fz)))⟩) ?_
      refine e_loadA (i := 0) (Uu 36) rfl (Uz 36) rfl rfl (arrv_size _ _) rfl ⟨[2], ⟨rfl, rfl, trivial⟩, _, rfl, by simp⟩ ?_
      refine (Qm)<|(Qm) ?_
      refine e_appendL 50 hf0_1 (show Shows [] 1 nilS e2.2.2.length (e2.2.2.map by8) by rw [hen h0]; exact shows_nil [] 1) rfl (fun _ h => by cases h) (off_bag (js := [0]) rfl (by repeat (first | exact bag_nil | exact bag_lab _ | apply bag_skip rfl)) ⟨rfl, rfl, trivial⟩) (Uu 41) (Uz 5) (Uy 5) (Ub 5) (by rfl) rfl rfl by8_one (by simp only [maxLen]; omega) (by omega) rfl fun v3_1 oz3_1 ho3_1 => ?_
      refine (Qm) ?_
      refine e_storeA (i := 2) (Uz 36) rfl rfl (arrv_size _ _) (cells_one ⟨fun _ => rfl, fun _ => rfl, fun _ => h1.1, fun _ => h1.2.1, fun _ => h1.2.2.1, fun _ => h1.2.2.2.1, fun _ => rfl, fun _ => rfl, fun _ => rfl, fun _ => rfl, fun _ => rfl, fun _ => rfl, fun _ => rfl, fun _ => rfl, fun _ => rfl, fun _ => rfl, fun _ => rfl, fun _ => rfl, fun _ => rfl, fun _ => rfl, fun _ => rfl, fun _ => h1.2.2.2.2, fun _ => rfl, trivial⟩) rfl cells_sz (.inr (by simp)) ?_
      refine (Qa)<|(Qa)<|Qn<|Qr ?_
      exact ⟨_, _, _, _, _, 50, rfl, .cell (i := 2) rfl rfl (Uu 36) rfl (Uz 36) (arrv_size _ _), .tmp rfl, .tmp rfl, (own_fix ho3_1 (by first | rfl | rw [List.length_append]) (by first | rfl | rw [List.map_append])), rfl⟩
end Go.Proofs.YthljakcegoohlabGreatDoor
