import Derived.Test.YthljakcegoohlaaGreatDoorKT10
set_option maxRecDepth 30000
namespace Go.Proofs.YthljakcegoohlaaGreatDoor
open Go Go.RowKit
variable {G : Mem}
set_option maxHeartbeats 2000000 in
theorem hearL_short (hO : DOR ∈ G) (b : List Nat) (l : Bool) (vp v0 v1 vt : Value) (fi : Bool) (tn : Int) (dd : Bool) (y : SY) (r : RS) (ow : Nat → Nat) (vk : Value) (us : Nat) (h1 : ones vp v0 v1 vt vk) (hy : okY y) (vx : Value) (bs : List Nat) (hvx : Sh G vx bs) (hbb : ∀ x ∈ bs, x < 256) (hbl : bs.length ≤ 100000) (kn : Nat) (hkn : kn = keyN y) (hs : bs.length < kn) : Fn Tryz.prog G 124 #[.agg (shC b l vp v0 v1 vt fi tn dd y ow r vk ((us : Nat) : Int)), vx] (.tuple #[.agg (shC b l vp v0 v1 vt fi tn dd y ow r vk ((us : Nat) : Int)), nilS, ii 4]) := by
  have _u1 := hO
  have _u2 := hy
  have _u3 := hbb
  have _u4 := hbl
  refine Qf3 Tryz.func124 ?_
  refine Qs<|Qp<|(Qh 0) fun r1=>(QH 1) fun r2=>(Qa)<|(Qa)<|Qn<|Qs<|Qp<|(Qa)<|Qn<|Qs<|Qs<|Qp<|(Qf 9)<|(Qf 9)<|(Qf 9)<|(QV 9 0)<|Qn ?_
  refine s_join [(0, _), (1, _), (2, _), (4, _), (5, _), (6, _), (10, _), (11, _), (12, _), (13, _)] [(7, ii kn)] [(0, some _), (1, some _)] ⟨rfl, rfl, rfl, rfl, rfl, rfl, rfl, rfl, rfl, rfl, trivial⟩ ⟨rfl, rfl, trivial⟩ ?_ ?_
  · skip
    refine e_cond rfl ?_ ?_
    · intro hc0
      have hc9 := hc0
      refine Qp<|(Qa)<|Qn ?_
      exact ⟨⟨rfl, rfl, rfl, rfl, rfl, rfl, rfl, rfl, rfl, rfl, trivial⟩, ⟨(by first | (rw [keyN_t hkn hc9]; rfl) | (rw [keyN_f hkn hc9]; rfl)), trivial⟩, ⟨rfl, rfl, trivial⟩⟩
    · intro hc0
      have hc9 := hc0
      refine Qk ?_
      exact ⟨⟨rfl, rfl, rfl, rfl, rfl, rfl, rfl, rfl, rfl, rfl, trivial⟩, ⟨(by first | (rw [keyN_t hkn hc9]; rfl) | (rw [keyN_f hkn hc9]; rfl)), trivial⟩, ⟨rfl, rfl, trivial⟩⟩
  · simp only [catE]
    refine Qs<|Qs<|Qp<|(Qm)<|(QC hvx)<|(Qm)<|(Ql)<|Qn ?_
    refine e_cond rfl ?_ ?_
    · intro hc1
      refine Qs<|Qp<|(QD 0) ?_
      refine e_storeA (i := 1) (Uz 37) rfl rfl (arrv_size _ _) (cells_one ⟨fun _ => rfl, fun _ => rfl, fun _ => h1.1, fun _ => h1.2.1, fun _ => h1.2.2.1, fun _ => h1.2.2.2.1, fun _ => rfl, fun _ => rfl, fun _ => rfl, fun _ => rfl, fun _ => rfl, fun _ => rfl, fun _ => rfl, fun _ => rfl, fun _ => rfl, fun _ => rfl, fun _ => rfl, fun _ => rfl, fun _ => rfl, fun _ => rfl, fun _ => rfl, fun _ => h1.2.2.2.2, fun _ => rfl, trivial⟩) rfl cells_sz (.inl rfl) ?_
      refine (Qa)<|(Qa)<|Qn<|Qr ?_
      exact ⟨_, _, _, rfl, .cell (i := 1) rfl rfl (Uu 37) rfl (Uz 37) (arrv_size _ _), .tmp rfl, .tmp rfl⟩
    · intro hc1
      have hc1 := of_decide_eq_false hc1
      exact absurd hs (by omega)
set_option maxHeartbeats 2000000 in
theorem hearL_err (hO : DOR ∈ G) (b : List Nat) (l : Bool) (vp v0 v1 vt : Value) (fi : Bool) (tn : Int) (dd : Bool) (y : SY) (r : RS) (ow : Nat → Nat) (vk : Value) (us : Nat) (h1 : ones vp v0 v1 vt vk) (hy : okY y) (vx : Value) (bs : List Nat) (hvx : Sh G vx bs) (hbb : ∀ x ∈ bs, x < 256) (hbl : bs.length ≤ 100000) (kn : Nat) (hkn : kn = keyN y) (hs : ¬ bs.length < kn) (w : Nat × SY × List Nat) (hw : openP y (bs.take kn) = w) (he : w.1 ≠ 0) : Fn Tryz.prog G 124 #[.agg (shC b l vp v0 v1 vt fi tn dd y ow r vk ((us : Nat) : Int)), vx] (.tuple #[.agg (shC b l vp v0 v1 vt fi tn dd w.2.1 ow r vk ((us : Nat) : Int)), nilS, ii w.1]) := by
  have _u1 := hbl
  refine Qf3 Tryz.func124 ?_
  refine Qs<|Qp<|(Qh 0) fun r1=>(QH 1) fun r2=>(Qa)<|(Qa)<|Qn<|Qs<|Qp<|(Qa)<|Qn<|Qs<|Qs<|Qp<|(Qf 9)<|(Qf 9)<|(Qf 9)<|(QV 9 0)<|Qn ?_
  refine s_join [(0, _), (1, _), (2, _), (4, _), (5, _), (6, _), (10, _), (11, _), (12, _), (13, _)] [(7, ii kn)] [(0, some _), (1, some _)] ⟨rfl, rfl, rfl, rfl, rfl, rfl, rfl, rfl, rfl, rfl, trivial⟩ ⟨rfl, rfl, trivial⟩ ?_ ?_
  · skip
    refine e_cond rfl ?_ ?_
    · intro hc0
      have hc9 := hc0
      refine Qp<|(Qa)<|Qn ?_
      exact ⟨⟨rfl, rfl, rfl, rfl, rfl, rfl, rfl, rfl, rfl, rfl, trivial⟩, ⟨(by first | (rw [keyN_t hkn hc9]; rfl) | (rw [keyN_f hkn hc9]; rfl)), trivial⟩, ⟨rfl, rfl, trivial⟩⟩
    · intro hc0
      have hc9 := hc0
      refine Qk ?_
      exact ⟨⟨rfl, rfl, rfl, rfl, rfl, rfl, rfl, rfl, rfl, rfl, trivial⟩, ⟨(by first | (rw [keyN_t hkn hc9]; rfl) | (rw [keyN_f hkn hc9]; rfl)), trivial⟩, ⟨rfl, rfl, trivial⟩⟩
  · simp only [catE]
    refine Qs<|Qs<|Qp<|(Qm)<|(QC hvx)<|(Qm)<|(Ql)<|Qn ?_
    refine e_cond rfl ?_ ?_
    · intro hc1
      have hc1 := of_decide_eq_true hc1
      exact absurd hs (by omega)
    · intro hc1
      refine Qk<|Qs<|(Qg)<|(QD 0)<|(Qm)<|(Qm) ?_
      refine e_sliceV 0 kn hvx (Uu 22) (Uz 5) rfl rfl rfl rfl ⟨_, rfl⟩ (by omega) (by omega) rfl ?_
      refine e_call rfl (Un 75) (dshopen_err hO b l vp v0 v1 vt fi tn dd y r ow vk us h1 hy _ (bs.take kn) (head_shows kn hvx (by omega)) (fun x hx => hbb x (List.mem_of_mem_take hx)) w hw he) rfl rfl ?_
      refine (Qm)<|(Qx)<|(Qx)<|(Qx) ?_
      refine e_storeA (i := 0) (Uz 37) rfl rfl (arrv_size _ _) (cells_one ⟨fun _ => rfl, fun _ => rfl, fun _ => h1.1, fun _ => h1.2.1, fun _ => h1.2.2.1, fun _ => h1.2.2.2.1, fun _ => rfl, fun _ => rfl, fun _ => rfl, fun _ => rfl, fun _ => rfl, fun _ => rfl, fun _ => rfl, fun _ => rfl, fun _ => rfl, fun _ => rfl, fun _ => rfl, fun _ => rfl, fun _ => rfl, fun _ => rfl, fun _ => rfl, fun _ => h1.2.2.2.2, fun _ => rfl, trivial⟩) rfl cells_sz (.inl rfl) ?_
      refine (Qa)<|(Qa)<|Qn<|Qs<|Qs<|Qp<|(Qm)<|(QN)<|(Qat)<|Qn<|(Qct)<|Qs<|Qp<|(QD 0)<|(Qm) ?_
      refine e_storeA (i := 1) (Uz 37) rfl rfl (arrv_size _ _) (cells_one ⟨fun _ => rfl, fun _ => rfl, fun _ => h1.1, fun _ => h1.2.1, fun _ => h1.2.2.1, fun _ => h1.2.2.2.1, fun _ => rfl, fun _ => rfl, fun _ => rfl, fun _ => rfl, fun _ => rfl, fun _ => rfl, fun _ => rfl, fun _ => rfl, fun _ => rfl, fun _ => rfl, fun _ => rfl, fun _ => rfl, fun _ => rfl, fun _ => rfl, fun _ => rfl, fun _ => h1.2.2.2.2, fun _ => rfl, trivial⟩) rfl cells_sz (.inl rfl) ?_
      refine (Qa)<|(Qa)<|Qn<|Qr ?_
      exact ⟨_, _, _, rfl, .cell (i := 1) rfl rfl (Uu 37) rfl (Uz 37) (arrv_size _ _), .tmp rfl, .tmp rfl⟩
set_option maxHeartbeats 4000000 in
theorem hearL_ok (hO : DOR ∈ G) (b : List Nat) (l : Bool) (vp v0 v1 vt : Value) (fi : Bool) (tn : Int) (dd : Bool) (y : SY) (r : RS) (ow : Nat → Nat) (vk : Value) (us : Nat) (h1 : ones vp v0 v1 vt vk) (hy : okY y) (vx : Value) (bs : List Nat) (hvx : Sh G vx bs) (hbb : ∀ x ∈ bs, x < 256) (hbl : bs.length ≤ 100000) (kn : Nat) (hkn : kn = keyN y) (hs : ¬ bs.length < kn) (w : Nat × SY × List Nat) (hw : openP y (bs.take kn) = w) (he : w.1 = 0) : Fn Tryz.prog G 124 #[.agg (shC b l vp v0 v1 vt fi tn dd y ow r vk ((us : Nat) : Int)), vx] (.tuple #[.agg (shC b l vp v0 v1 vt fi tn dd w.2.1 ow (r.1, r.2.1, (fun j => w.2.2.getD j 0), true, r.2.2.2.2) vk ((us : Nat) : Int)), slPart 1 vx kn bs.length, ii 0]) := by
  have hw32 : w.2.2.length = 32 := by rw [← hw, hkn]; exact openP_key (by rw [← hkn]; omega) (by rw [← hkn, hw]; exact he)
  refine Qf3 Tryz.func124 ?_
  refine Qs<|Qp<|(Qh 0) fun r1=>(QH 1) fun r2=>(Qa)<|(Qa)<|Qn<|Qs<|Qp<|(Qa)<|Qn<|Qs<|Qs<|Qp<|(Qf 9)<|(Qf 9)<|(Qf 9)<|(QV 9 0)<|Qn ?_
  refine s_join [(0, _), (1, _), (2, _), (4, _), (5, _), (6, _), (10, _), (11, _), (12, _), (13, _)] [(7, ii kn)] [(0, some _), (1, some _)] ⟨rfl, rfl, rfl, rfl, rfl, rfl, rfl, rfl, rfl, rfl, trivial⟩ ⟨rfl, rfl, trivial⟩ ?_ ?_
  · skip
    refine e_cond rfl ?_ ?_
    · intro hc0
      have hc9 := hc0
      refine Qp<|(Qa)<|Qn ?_
      exact ⟨⟨rfl, rfl, rfl, rfl, rfl, rfl, rfl, rfl, rfl, rfl, trivial⟩, ⟨(by first | (rw [keyN_t hkn hc9]; rfl) | (rw [keyN_f hkn hc9]; rfl)), trivial⟩, ⟨rfl, rfl, trivial⟩⟩
    · intro hc0
      have hc9 := hc0
      refine Qk ?_
      exact ⟨⟨rfl, rfl, rfl, rfl, rfl, rfl, rfl, rfl, rfl, rfl, trivial⟩, ⟨(by first | (rw [keyN_t hkn hc9]; rfl) | (rw [keyN_f hkn hc9]; rfl)), trivial⟩, ⟨rfl, rfl, trivial⟩⟩
  · simp only [catE]
    refine Qs<|Qs<|Qp<|(Qm)<|(QC hvx)<|(Qm)<|(Ql)<|Qn ?_
    refine e_cond rfl ?_ ?_
    · intro hc1
      have hc1 := of_decide_eq_true hc1
      exact absurd hs (by omega)
    · intro hc1
      refine Qk<|Qs<|(Qq ⟨[], 4, [], none⟩)<|(QD 0)<|(Qm)<|(Qm) ?_
      refine e_sliceV 0 kn hvx (Uu 22) (Uz 5) rfl rfl rfl rfl ⟨_, rfl⟩ (by omega) (by omega) rfl ?_
      refine e_callN 2 (fun v => .tuple #[.agg (shC b l vp v0 v1 vt fi tn dd w.2.1 ow r vk ((us : Nat) : Int)), v, ii 0]) rfl rfl (Un 75) seenG (dshopen_ok hO b l vp v0 v1 vt fi tn dd y r ow vk us h1 hy _ (bs.take kn) (head_shows kn hvx (by omega)) (fun x hx => hbb x (List.mem_of_mem_take hx)) w hw (by rw [List.length_take]; omega) he) (by simp only [maxLen]; omega) (by rw [List.length_map, Nat.mul_one]) rfl rfl fun v3_1 oz3_1 ho3_1 => ?_
      refine (Qm)<|(Qx)<|(Qx)<|(Qx) ?_
      refine e_storeA (i := 0) (Uz 37) rfl rfl (arrv_size _ _) (cells_one ⟨fun _ => rfl, fun _ => rfl, fun _ => h1.1, fun _ => h1.2.1, fun _ => h1.2.2.1, fun _ => h1.2.2.2.1, fun _ => rfl, fun _ => rfl, fun _ => rfl, fun _ => rfl, fun _ => rfl, fun _ => rfl, fun _ => rfl, fun _ => rfl, fun _ => rfl, fun _ => rfl, fun _ => rfl, fun _ => rfl, fun _ => rfl, fun _ => rfl, fun _ => rfl, fun _ => h1.2.2.2.2, fun _ => rfl, trivial⟩) rfl cells_sz (.inl rfl) ?_
      refine (Qa)<|(Qa)<|Qn<|Qs<|Qs<|Qp<|(Qm)<|(QN) ?_
      refine e_as (congrArg Value.bool (decide_eq_false (by decide))) ?_
      refine Qn<|(Qcf)<|Qk<|Qs<|Qp<|(Qm) ?_
      refine e_toArrV ho3_1.shows (Uu 30) rfl (by decide) (by omega) rfl ?_
      refine e_loadVS ho3_1.shows (seenM 2 rfl ⟨[], trivial⟩) (Uu 30) rfl (Uz 30) rfl (by decide) (by rw [List.length_map]; omega) rfl rfl ?_
      refine e_as (congrArg Value.agg (key_cells (by omega))) ?_
      refine (Qf 172) ?_
      refine e_stC (i := 0) 17 (Uz 30) rfl rfl rfl rfl (by decide) (.inl rfl) ?_
      refine (Qf 204) ?_
      refine e_stV (i := 0) 18 (Uz 4) rfl rfl rfl rfl rfl (by decide) (.inl rfl) ?_
      refine e_blk (c' := shC b l vp v0 v1 vt fi tn dd w.2.1 ow (r.1, r.2.1, (fun j => w.2.2.getD j 0), true, r.2.2.2.2) vk ((us : Nat) : Int)) rfl ?_
      refine Qn<|Qs<|(Qq ⟨[r2], 1, [], none⟩) ?_
      refine e_loadA (i := 0) (Uu 37) rfl (Uz 37) rfl rfl (arrv_size _ _) rfl ⟨[1], rfl, rfl, trivial⟩ ?_
      refine (Qm)<|(Qm) ?_
      refine e_sliceV kn bs.length hvx (Uu 22) (Uz 5) rfl rfl rfl ⟨_, rfl⟩ rfl (by omega) (by omega) rfl ?_
      refine e_storeA (i := 1) (Uz 37) rfl rfl (arrv_size _ _) (cells_one ⟨fun _ => rfl, fun _ => rfl, fun _ => h1.1, fun _ => h1.2.1, fun _ => h1.2.2.1, fun _ => h1.2.2.2.1, fun _ => rfl, fun _ => rfl, fun _ => rfl, fun _ => rfl, fun _ => rfl, fun _ => rfl, fun _ => rfl, fun _ => rfl, fun _ => rfl, fun _ => rfl, fun _ => rfl, fun _ => rfl, fun _ => rfl, fun _ => rfl, fun _ => rfl, fun _ => h1.2.2.2.2, fun _ => rfl, trivial⟩) rfl cells_sz (.inr (by simp)) ?_
      refine (Qa)<|(Qa)<|Qn<|Qr ?_
      exact ⟨_, _, _, rfl, .cell (i := 1) rfl rfl (Uu 37) rfl (Uz 37) (arrv_size _ _), .tmp rfl, .tmp rfl⟩
end Go.Proofs.YthljakcegoohlaaGreatDoor
namespace Go.Proofs.YthljakcegoohlaaGreatDoor
open Go Go.RowKit
variable {G : Mem}
set_option maxHeartbeats 2000000 in
theorem hear_e_no (hO : DOR ∈ G) (b : List Nat) (l : Bool) (vp v0 v1 vt : Value) (fi : Bool) (tn : Int) (dd : Bool) (y : SY) (r : RS) (ow : Nat → Nat) (vk : Value) (us : Nat) (ps : List (Nat → Nat)) (hk : Shows G 32 vk ps.length (psC ps)) (hp : okP ps) (h1 : ones vp v0 v1 vt vk) (hy : okY y) (hr : okR r) (ho : B32 ow) (vx : Value) (bs : List Nat) (hvx : Sh G vx bs) (hbb : ∀ x ∈ bs, x < 256) (hbl : bs.length ≤ 100000) (hs : bs.length < 32) : Fn Tryz.prog G 74 #[.agg (shC b l vp v0 v1 vt fi tn dd y ow r vk ((us : Nat) : Int)), ii 1, vx] (.tuple #[.agg (shC b l vp v0 v1 vt fi tn dd y ow r vk ((us : Nat) : Int)), nilS, ii 4]) := by
  have _u1 := hp
  have _u2 := hr
  have _u3 := ho
  have _u4 := hk
  have _u5 := hy
  have _u6 := hbb
  have _u7 := hO
  have _u8 := hbl
  refine Qf3 Tryz.func74 ?_
  refine Qs<|Qp<|(Qh 0) fun r1=>(QH 1) fun r2=>(Qa)<|(Qa)<|Qn<|Qs<|Qs<|Qp<|(Qm)<|Qn<|Qb<|Qs<|Qp<|(Qc)<|(Qa)<|Qn ?_
  refine e_cond rfl ?_ ?_
  · intro hc0
    refine Qs<|Qs<|Qp<|(Qm)<|(QC hvx)<|(Ql)<|Qn ?_
    refine e_cond rfl ?_ ?_
    · intro hc1
      refine Qs<|Qp<|(QD 0) ?_
      refine e_storeA (i := 1) (Uz 37) rfl rfl (arrv_size _ _) (cells_one ⟨fun _ => rfl, fun _ => rfl, fun _ => h1.1, fun _ => h1.2.1, fun _ => h1.2.2.1, fun _ => h1.2.2.2.1, fun _ => rfl, fun _ => rfl, fun _ => rfl, fun _ => rfl, fun _ => rfl, fun _ => rfl, fun _ => rfl, fun _ => rfl, fun _ => rfl, fun _ => rfl, fun _ => rfl, fun _ => rfl, fun _ => rfl, fun _ => rfl, fun _ => rfl, fun _ => h1.2.2.2.2, fun _ => rfl, trivial⟩) rfl cells_sz (.inl rfl) ?_
      refine (Qa)<|(Qa)<|Qn<|Qr ?_
      exact ⟨_, _, _, rfl, .cell (i := 1) rfl rfl (Uu 37) rfl (Uz 37) (arrv_size _ _), .tmp rfl, .tmp rfl⟩
    · intro hc1
      have hc1 := of_decide_eq_false hc1
      exact absurd hs (by omega)
  · intro hc0
    exact absurd hc0 (by decide)
set_option maxHeartbeats 4000000 in
theorem hear_e (hO : DOR ∈ G) (b : List Nat) (l : Bool) (vp v0 v1 vt : Value) (fi : Bool) (tn : Int) (dd : Bool) (y : SY) (r : RS) (ow : Nat → Nat) (vk : Value) (us : Nat) (ps : List (Nat → Nat)) (hk : Shows G 32 vk ps.length (psC ps)) (hp : okP ps) (h1 : ones vp v0 v1 vt vk) (hy : okY y) (hr : okR r) (ho : B32 ow) (vx : Value) (bs : List Nat) (hvx : Sh G vx bs) (hbb : ∀ x ∈ bs, x < 256) (hbl : bs.length ≤ 100000) (hs : ¬ bs.length < 32) : Fn Tryz.prog G 74 #[.agg (shC b l vp v0 v1 vt fi tn dd y ow r vk ((us : Nat) : Int)), ii 1, vx] (.tuple #[.agg (shC b l vp v0 v1 vt fi tn dd (freshP (npk ps) y (fun j => bs.getD j 0)) ow (r.1, r.2.1, r.2.2.1, r.2.2.2.1, (fun j => bs.getD j 0), true) vk ((us : Nat) : Int)), slPart 1 vx 32 bs.length, ii 0]) := by
  have _u1 := hp
  have _u2 := hr
  have _u3 := ho
  have _u4 := hk
  have _u5 := hy
  have _u6 := hbb
  have _u7 := hO
  have _u8 := hbl
  obtain ⟨fb, hfb⟩ : ∃ z, z = (fun j => bs.getD j 0) := ⟨_, rfl⟩
  have hfl : B32 fb := by rw [hfb]; exact getD_B32 hbb
  rw [← hfb]
  obtain ⟨z, hz⟩ : ∃ z, z = freshP (npk ps) y fb := ⟨_, rfl⟩
  rw [← hz]
  refine Qf3 Tryz.func74 ?_
  refine Qs<|Qp<|(Qh 0) fun r1=>(QH 1) fun r2=>(Qa)<|(Qa)<|Qn<|Qs<|Qs<|Qp<|(Qm)<|Qn<|Qb<|Qs<|Qp<|(Qc)<|(Qa)<|Qn ?_
  refine e_cond rfl ?_ ?_
  · intro hc0
    refine Qs<|Qs<|Qp<|(Qm)<|(QC hvx)<|(Ql)<|Qn ?_
    refine e_cond rfl ?_ ?_
    · intro hc1
      have hc1 := of_decide_eq_true hc1
      exact absurd hs (by omega)
    · intro hc1
      refine Qk<|Qs<|(Qq ⟨[r2], 1, [], none⟩) ?_
      refine e_loadA (i := 0) (Uu 37) rfl (Uz 37) rfl rfl (arrv_size _ _) rfl ⟨[1], rfl, rfl, trivial⟩ ?_
      refine (Qm) ?_
      refine e_sliceV 0 32 hvx (Uu 22) (Uz 5) rfl rfl rfl rfl ⟨_, rfl⟩ (by omega) (by omega) rfl ?_
      refine e_toArrV (head_shows 32 hvx (by omega)) (Uu 30) rfl (by decide) (by rw [List.length_take]; omega) rfl ?_
      refine e_loadVS (head_shows 32 hvx (by omega)) seenG (Uu 30) rfl (Uz 30) rfl (by decide) (by simp; omega) rfl rfl ?_
      refine e_as (show _ = Value.agg (arr .u8 32 fb) by rw [hfb]; exact congrArg Value.agg (key_cells2 (by omega))) ?_
      refine e_call rfl (Un 95) (newest_fn hO b l vp v0 v1 vt fi tn dd y r ow vk us fb ps hk h1 hy hfl) rfl rfl ?_
      refine e_as (show _ = Value.agg (shC b l vp v0 v1 vt fi tn dd z ow (r.1, r.2.1, r.2.2.1, r.2.2.2.1, fb, true) vk ((us : Nat) : Int)) by rw [hz]) ?_
      refine (Qm) ?_
      refine e_sliceV 32 bs.length hvx (Uu 22) (Uz 5) rfl rfl rfl ⟨_, rfl⟩ rfl (by omega) (by omega) rfl ?_
      refine e_storeA (i := 1) (Uz 37) rfl rfl (arrv_size _ _) (cells_one ⟨fun _ => rfl, fun _ => rfl, fun _ => h1.1, fun _ => h1.2.1, fun _ => h1.2.2.1, fun _ => h1.2.2.2.1, fun _ => rfl, fun _ => rfl, fun _ => rfl, fun _ => rfl, fun _ => rfl, fun _ => rfl, fun _ => rfl, fun _ => rfl, fun _ => rfl, fun _ => rfl, fun _ => rfl, fun _ => rfl, fun _ => rfl, fun _ => rfl, fun _ => rfl, fun _ => h1.2.2.2.2, fun _ => rfl, trivial⟩) rfl cells_sz (.inr (by simp)) ?_
      refine (Qa)<|(Qa)<|Qn<|Qr ?_
      exact ⟨_, _, _, rfl, .cell (i := 1) rfl rfl (Uu 37) rfl (Uz 37) (arrv_size _ _), .tmp rfl, .tmp rfl⟩
  · intro hc0
    exact absurd hc0 (by decide)
set_option maxHeartbeats 2000000 in
theorem hear_s_no (hO : DOR ∈ G) (b : List Nat) (l : Bool) (vp v0 v1 vt : Value) (fi : Bool) (tn : Int) (dd : Bool) (y : SY) (r : RS) (ow : Nat → Nat) (vk : Value) (us : Nat) (ps : List (Nat → Nat)) (hk : Shows G 32 vk ps.length (psC ps)) (hp : okP ps) (h1 : ones vp v0 v1 vt vk) (hy : okY y) (hr : okR r) (ho : B32 ow) (vx : Value) (bs : List Nat) (hvx : Sh G vx bs) (hbb : ∀ x ∈ bs, x < 256) (hbl : bs.length ≤ 100000) (hs : bs.length < keyN y) : Fn Tryz.prog G 74 #[.agg (shC b l vp v0 v1 vt fi tn dd y ow r vk ((us : Nat) : Int)), ii 2, vx] (.tuple #[.agg (shC b l vp v0 v1 vt fi tn dd y ow r vk ((us : Nat) : Int)), nilS, ii 4]) := by
  have _u1 := hp
  have _u2 := hr
  have _u3 := ho
  have _u4 := hk
  have _u5 := hy
  have _u6 := hbb
  have _u7 := hO
  have _u8 := hbl
  refine Qf3 Tryz.func74 ?_
  refine Qs<|Qp<|(Qh 0) fun r1=>(QH 1) fun r2=>(Qa)<|(Qa)<|Qn<|Qs<|Qs<|Qp<|(Qm)<|Qn<|Qb<|Qs<|Qp<|(Qc)<|(Qa)<|Qn ?_
  refine e_cond rfl ?_ ?_
  · intro hc0
    exact absurd hc0 (by decide)
  · intro hc0
    refine Qs<|Qp<|(Qc)<|(Qa)<|Qn ?_
    refine e_cond rfl ?_ ?_
    · intro hc1
      refine Qs<|Qp<|(QD 0)<|(Qm) ?_
      refine e_call rfl (Un 124) (hearL_short hO b l vp v0 v1 vt fi tn dd y r ow vk us h1 hy vx bs hvx hbb hbl (keyN y) rfl hs) rfl rfl ?_
      refine (Qx)<|(Qx)<|(Qx) ?_
      refine e_storeA (i := 1) (Uz 37) rfl rfl (arrv_size _ _) (cells_one ⟨fun _ => rfl, fun _ => rfl, fun _ => h1.1, fun _ => h1.2.1, fun _ => h1.2.2.1, fun _ => h1.2.2.2.1, fun _ => rfl, fun _ => rfl, fun _ => rfl, fun _ => rfl, fun _ => rfl, fun _ => rfl, fun _ => rfl, fun _ => rfl, fun _ => rfl, fun _ => rfl, fun _ => rfl, fun _ => rfl, fun _ => rfl, fun _ => rfl, fun _ => rfl, fun _ => h1.2.2.2.2, fun _ => rfl, trivial⟩) rfl cells_sz (.inl rfl) ?_
      refine (Qa)<|(Qa)<|Qn<|Qr ?_
      exact ⟨_, _, _, rfl, .cell (i := 1) rfl rfl (Uu 37) rfl (Uz 37) (arrv_size _ _), .tmp rfl, .tmp rfl⟩
    · intro hc1
      exact absurd hc1 (by decide)
set_option maxHeartbeats 2000000 in
theorem hear_s_err (hO : DOR ∈ G) (b : List Nat) (l : Bool) (vp v0 v1 vt : Value) (fi : Bool) (tn : Int) (dd : Bool) (y : SY) (r : RS) (ow : Nat → Nat) (vk : Value) (us : Nat) (ps : List (Nat → Nat)) (hk : Shows G 32 vk ps.length (psC ps)) (hp : okP ps) (h1 : ones vp v0 v1 vt vk) (hy : okY y) (hr : okR r) (ho : B32 ow) (vx : Value) (bs : List Nat) (hvx : Sh G vx bs) (hbb : ∀ x ∈ bs, x < 256) (hbl : bs.length ≤ 100000) (hs : ¬ bs.length < keyN y) (w : Nat × SY × List Nat) (hw : openP y (bs.take (keyN y)) = w) (he : w.1 ≠ 0) : Fn Tryz.prog G 74 #[.agg (shC b l vp v0 v1 vt fi tn dd y ow r vk ((us : Nat) : Int)), ii 2, vx] (.tuple #[.agg (shC b l vp v0 v1 vt fi tn dd w.2.1 ow r vk ((us : Nat) : Int)), nilS, ii w.1]) := by
  have _u1 := hp
  have _u2 := hr
  have _u3 := ho
  have _u4 := hk
  have _u5 := hy
  have _u6 := hbb
  have _u7 := hO
  have _u8 := hbl
  refine Qf3 Tryz.func74 ?_
  refine Qs<|Qp<|(Qh 0) fun r1=>(QH 1) fun r2=>(Qa)<|(Qa)<|Qn<|Qs<|Qs<|Qp<|(Qm)<|Qn<|Qb<|Qs<|Qp<|(Qc)<|(Qa)<|Qn ?_
  refine e_cond rfl ?_ ?_
  · intro hc0
    exact absurd hc0 (by decide)
  · intro hc0
    refine Qs<|Qp<|(Qc)<|(Qa)<|Qn ?_
    refine e_cond rfl ?_ ?_
    · intro hc1
      refine Qs<|Qp<|(QD 0)<|(Qm) ?_
      refine e_call rfl (Un 124) (hearL_err hO b l vp v0 v1 vt fi tn dd y r ow vk us h1 hy vx bs hvx hbb hbl (keyN y) rfl hs w hw he) rfl rfl ?_
      refine (Qx)<|(Qx)<|(Qx) ?_
      refine e_storeA (i := 1) (Uz 37) rfl rfl (arrv_size _ _) (cells_one ⟨fun _ => rfl, fun _ => rfl, fun _ => h1.1, fun _ => h1.2.1, fun _ => h1.2.2.1, fun _ => h1.2.2.2.1, fun _ => rfl, fun _ => rfl, fun _ => rfl, fun _ => rfl, fun _ => rfl, fun _ => rfl, fun _ => rfl, fun _ => rfl, fun _ => rfl, fun _ => rfl, fun _ => rfl, fun _ => rfl, fun _ => rfl, fun _ => rfl, fun _ => rfl, fun _ => h1.2.2.2.2, fun _ => rfl, trivial⟩) rfl cells_sz (.inl rfl) ?_
      refine (Qa)<|(Qa)<|Qn<|Qr ?_
      exact ⟨_, _, _, rfl, .cell (i := 1) rfl rfl (Uu 37) rfl (Uz 37) (arrv_size _ _), .tmp rfl, .tmp rfl⟩
    · intro hc1
      exact absurd hc1 (by decide)
set_option maxHeartbeats 2000000 in
theorem hear_s (hO : DOR ∈ G) (b : List Nat) (l : Bool) (vp v0 v1 vt : Value) (fi : Bool) (tn : Int) (dd : Bool) (y : SY) (r : RS) (ow : Nat → Nat) (vk : Value) (us : Nat) (ps : List (Nat → Nat)) (hk : Shows G 32 vk ps.length (psC ps)) (hp : okP ps) (h1 : ones vp v0 v1 vt vk) (hy : okY y) (hr : okR r) (ho : B32 ow) (vx : Value) (bs : List Nat) (hvx : Sh G vx bs) (hbb : ∀ x ∈ bs, x < 256) (hbl : bs.length ≤ 100000) (hs : ¬ bs.length < keyN y) (w : Nat × SY × List Nat) (hw : openP y (bs.take (keyN y)) = w) (he : w.1 = 0) : Fn Tryz.prog G 74 #[.agg (shC b l vp v0 v1 vt fi tn dd y ow r vk ((us : Nat) : Int)), ii 2, vx] (.tuple #[.agg (shC b l vp v0 v1 vt fi tn dd w.2.1 ow (r.1, r.2.1, (fun j => w.2.2.getD j 0), true, r.2.2.2.2) vk ((us : Nat) : Int)), slPart 1 vx (keyN y) bs.length, ii 0]) := by
  have _u1 := hp
  have _u2 := hr
  have _u3 := ho
  have _u4 := hk
  have _u5 := hy
  have _u6 := hbb
  have _u7 := hO
  have _u8 := hbl
  refine Qf3 Tryz.func74 ?_
  refine Qs<|Qp<|(Qh 0) fun r1=>(QH 1) fun r2=>(Qa)<|(Qa)<|Qn<|Qs<|Qs<|Qp<|(Qm)<|Qn<|Qb<|Qs<|Qp<|(Qc)<|(Qa)<|Qn ?_
  refine e_cond rfl ?_ ?_
  · intro hc0
    exact absurd hc0 (by decide)
  · intro hc0
    refine Qs<|Qp<|(Qc)<|(Qa)<|Qn ?_
    refine e_cond rfl ?_ ?_
    · intro hc1
      refine Qs<|Qp<|(QD 0)<|(Qm) ?_
      refine e_call rfl (Un 124) (hearL_ok hO b l vp v0 v1 vt fi tn dd y r ow vk us h1 hy vx bs hvx hbb hbl (keyN y) rfl hs w hw he) rfl rfl ?_
      refine (Qx)<|(Qx)<|(Qx) ?_
      refine e_storeA (i := 1) (Uz 37) rfl rfl (arrv_size _ _) (cells_one ⟨fun _ => rfl, fun _ => rfl, fun _ => h1.1, fun _ => h1.2.1, fun _ => h1.2.2.1, fun _ => h1.2.2.2.1, fun _ => rfl, fun _ => rfl, fun _ => rfl, fun _ => rfl, fun _ => rfl, fun _ => rfl, fun _ => rfl, fun _ => rfl, fun _ => rfl, fun _ => rfl, fun _ => rfl, fun _ => rfl, fun _ => rfl, fun _ => rfl, fun _ => rfl, fun _ => h1.2.2.2.2, fun _ => rfl, trivial⟩) rfl cells_sz (.inl rfl) ?_
      refine (Qa)<|(Qa)<|Qn<|Qr ?_
      exact ⟨_, _, _, rfl, .cell (i := 1) rfl rfl (Uu 37) rfl (Uz 37) (arrv_size _ _), .tmp rfl, .tmp rfl⟩
    · intro hc1
      exact absurd hc1 (by decide)
set_option maxHeartbeats 2000000 in
theorem hear_x (hO : DOR ∈ G) (b : List Nat) (l : Bool) (vp v0 v1 vt : Value) (fi : Bool) (tn : Int) (dd : Bool) (y : SY) (r : RS) (ow : Nat → Nat) (vk : Value) (us : Nat) (ps : List (Nat → Nat)) (hk : Shows G 32 vk ps.length (psC ps)) (hp : okP ps) (h1 : ones vp v0 v1 vt vk) (hy : okY y) (hr : okR r) (ho : B32 ow) (vx : Value) (bs : List Nat) (hvx : Sh G vx bs) (hbb : ∀ x ∈ bs, x < 256) (hbl : bs.length ≤ 100000) (t : Nat) (h3 : 3 ≤ t) (h7 : t ≤ 7) (w : Nat × SS) (hw : bothT fi ow ps t (y, r, us) = w) : Fn Tryz.prog G 74 #[.agg (shC b l vp v0 v1 vt fi tn dd y ow r vk ((us : Nat) : Int)), ii t, vx] (.tuple #[.agg (shC b l vp v0 v1 vt fi tn dd w.2.1 ow w.2.2.1 vk ((w.2.2.2 : Nat) : Int)), vx, ii w.1]) := by
  have _u1 := hbb
  have _u2 := hvx
  have _u3 := hbl
  refine Qf3 Tryz.func74 ?_
  refine Qs<|Qp<|(Qh 0) fun r1=>(QH 1) fun r2=>(Qa)<|(Qa)<|Qn<|Qs<|Qs<|Qp<|(Qm)<|Qn<|Qb<|Qs<|Qp<|(Qc)<|(Qa)<|Qn ?_
  refine e_cond rfl ?_ ?_
  · intro hc0
    exact absurd (of_decide_eq_true hc0) (by omega)
  · intro hc0
    refine Qs<|Qp<|(Qc)<|(Qa)<|Qn ?_
    refine e_cond rfl ?_ ?_
    · intro hc1
      exact absurd (of_decide_eq_true hc1) (by omega)
    · intro hc1
      refine Qk<|Qs<|Qp<|(QD 0)<|(Qm) ?_
      refine e_call rfl (Un 115) (dmix_fn hO b l vp v0 v1 vt fi tn dd y r ow vk us ps hk hp h1 hy hr ho t h3 h7 w hw) rfl rfl ?_
      refine (Qm)<|(Qx)<|(Qx)<|(QH 2) fun r3=>?_
      refine e_storeA (i := 2) (Uz 37) rfl rfl (arrv_size _ _) (cells_one ⟨fun _ => rfl, fun _ => rfl, fun _ => h1.1, fun _ => h1.2.1, fun _ => h1.2.2.1, fun _ => h1.2.2.2.1, fun _ => rfl, fun _ => rfl, fun _ => rfl, fun _ => rfl, fun _ => rfl, fun _ => rfl, fun _ => rfl, fun _ => rfl, fun _ => rfl, fun _ => rfl, fun _ => rfl, fun _ => rfl, fun _ => rfl, fun _ => rfl, fun _ => rfl, fun _ => h1.2.2.2.2, fun _ => rfl, trivial⟩) rfl cells_sz (.inl rfl) ?_
      refine (Qa)<|Qn<|Qs<|Qp<|(QD 2)<|(Qm)<|(Qm) ?_
      refine e_storeA (i := 1) (Uz 37) rfl rfl (arrv_size _ _) (cells_one ⟨fun _ => rfl, fun _ => rfl, fun _ => h1.1, fun _ => h1.2.1, fun _ => h1.2.2.1, fun _ => h1.2.2.2.1, fun _ => rfl, fun _ => rfl, fun _ => rfl, fun _ => rfl, fun _ => rfl, fun _ => rfl, fun _ => rfl, fun _ => rfl, fun _ => rfl, fun _ => rfl, fun _ => rfl, fun _ => rfl, fun _ => rfl, fun _ => rfl, fun _ => rfl, fun _ => h1.2.2.2.2, fun _ => rfl, trivial⟩) rfl cells_sz (.inl rfl) ?_
      refine (Qa)<|(Qa)<|Qn<|Qr ?_
      exact ⟨_, _, _, rfl, .cell (i := 1) rfl rfl (Uu 37) rfl (Uz 37) (arrv_size _ _), .tmp rfl, .tmp rfl⟩
end Go.Proofs.YthljakcegoohlaaGreatDoor
namespace Go.Proofs.YthljakcegoohlaaGreatDoor
open Go Go.RowKit
theorem hearA {G : Mem} (hO : DOR ∈ G) (b : List Nat) (l : Bool) (vp v0 v1 vt : Value) (fi : Bool) (tn : Int) (dd : Bool) (y : SY) (r : RS) (ow : Nat → Nat) (vk : Value) (us : Nat) (ps : List (Nat → Nat)) (hk : Shows G 32 vk ps.length (psC ps)) (hp : okP ps) (h1 : ones vp v0 v1 vt vk) (hy : okY y) (hr : okR r) (ho : B32 ow) (vx : Value) (bs : List Nat) (hvx : Shows G 1 vx bs.length (bs.map by8)) (hbb : ∀ x ∈ bs, x < 256) (hbl : bs.length ≤ 100000) (t : Nat) (h1t : 1 ≤ t) (h7 : t ≤ 7) (w : Nat × SS × List Nat) (hw : tokR fi ow ps t (y, r, us) bs = w) :
    ∃ v', (w.1 = 0 → Shows G 1 v' w.2.2.length (w.2.2.map by8)) ∧ Fn Tryz.prog G 74 #[.agg (shC b l vp v0 v1 vt fi tn dd y ow r vk ((us : Nat) : Int)), ii t, vx] (.tuple #[.agg (shC b l vp v0 v1 vt fi tn dd w.2.1.1 ow w.2.1.2.1 vk ((w.2.1.2.2 : Nat) : Int)), v', ii w.1]) := by
  by_cases t1 : t = 1
  · subst t1
    by_cases hs : bs.length < 32
    · obtain rfl : w = (4, (y, r, us), []) := by rw [← hw]; exact tokR_e_no hs
      exact ⟨nilS, fun h => absurd h four_ne, hear_e_no hO b l vp v0 v1 vt fi tn dd y r ow vk us ps hk hp h1 hy hr ho vx bs hvx hbb hbl hs⟩
    · obtain rfl : w = _ := hw.symm.trans (tokR_e hs)
      exact ⟨slPart 1 vx 32 bs.length, fun _ => part_shows 32 hvx (by omega), hear_e hO b l vp v0 v1 vt fi tn dd y r ow vk us ps hk hp h1 hy hr ho vx bs hvx hbb hbl hs⟩
  by_cases t2 : t = 2
  · subst t2
    by_cases hs : bs.length < keyN y
    · obtain rfl : w = (4, (y, r, us), []) := by rw [← hw]; exact tokR_s_no hs
      exact ⟨nilS, fun h => absurd h four_ne, hear_s_no hO b l vp v0 v1 vt fi tn dd y r ow vk us ps hk hp h1 hy hr ho vx bs hvx hbb hbl hs⟩
    obtain ⟨z, hz⟩ : ∃ z, openP y (bs.take (keyN y)) = z := ⟨_, rfl⟩
    by_cases h0 : z.1 = 0
    · obtain rfl : w = _ := hw.symm.trans (tokR_s hs hz h0)
      exact ⟨slPart 1 vx (keyN y) bs.length, fun _ => part_shows _ hvx (by omega), hear_s hO b l vp v0 v1 vt fi tn dd y r ow vk us ps hk hp h1 hy hr ho vx bs hvx hbb hbl hs z hz h0⟩
    · obtain rfl : w = _ := hw.symm.trans (tokR_s_err hs hz h0)
      exact ⟨nilS, fun h => absurd h h0, hear_s_err hO b l vp v0 v1 vt fi tn dd y r ow vk us ps hk hp h1 hy hr ho vx bs hvx hbb hbl hs z hz h0⟩
  obtain ⟨z, hz⟩ : ∃ z, bothT fi ow ps t (y, r, us) = z := ⟨_, rfl⟩
  obtain rfl : w = _ := hw.symm.trans (tokR_x (by omega) hz)
  exact ⟨vx, fun _ => hvx, hear_x hO b l vp v0 v1 vt fi tn dd y r ow vk us ps hk hp h1 hy hr ho vx bs hvx hbb hbl t (by omega) h7 z hz⟩
variable {G : Mem}
end Go.Proofs.YthljakcegoohlaaGreatDoor
namespace Go.Proofs.YthljakcegoohlaaGreatDoor
open Go Go.RowKit
variable {G : Mem}
set_option maxRecDepth 20000 in
set_option maxHeartbeats 8000000 in
theorem copied_fn (b : List Nat) (l : Bool) (vp v0 v1 vt : Value) (fi : Bool) (tn : Int) (dd : Bool) (y : SY) (r : RS) (ow : Nat → Nat) (vk : Value) (us : Int) (ps : List (Nat → Nat)) (qs p0 p1 : List Int) (tvs : List Value) (ts : List (List Int)) (hk : Shows G 32 vk ps.length (psC ps)) (hvp : Shows G 1 vp qs.length (qs.map iv)) (hvt : Shows G 1 vt tvs.length tvs) (hLI : ShowsLI G (v0 :: v1 :: tvs) (p0 :: p1 :: ts)) (zk : ps.length * 32 ≤ 140737488355328) (zp : qs.length * 8 ≤ 140737488355328) (zt : tvs.length * 24 ≤ 140737488355328) (zl : ∀ q ∈ p0 :: p1 :: ts, q.length * 8 ≤ 140737488355328) : Fx Tryz.prog G [] 37 #[.agg (shC b l vp v0 v1 vt fi tn dd y ow r vk us)] (fun v l1 nw => l1 = [] ∧ CopyIs b l qs p0 p1 ts ps fi tn dd y ow r us v nw) := by
  have hT := li_tail (li_tail hLI)
  have htl : tvs.length = ts.length := hT.1
  have hA0 : Shows G 1 v0 p0.length (p0.map iv) := hLI.2 0 (by simp)
  have hA1 : Shows G 1 v1 p1.length (p1.map iv) := hLI.2 1 (by simp)
  have z0 := zl p0 (by simp)
  have z1 := zl p1 (by simp)
  refine fxD (n := 55) Tryz.func37 rfl rfl (by simp) (argE [.agg (shC b l vp v0 v1 vt fi tn dd y ow r vk us)] 0) (argE_ok _) ?_
  refine Qs<|Qp<|(Qh 0) fun r1=>(QH 1) fun r2=>Qn<|Qs<|QR ⟨[], 4, [], none⟩<|(Qf 238)<|(QV 21 0) ?_
  refine e_callD [(0, _), (1, _)] (by repeat (first | exact bag_nil | exact bag_lab _ | apply bag_skip rfl)) ⟨rfl, rfl, trivial⟩ rfl rfl rfl (Un 25) seenG ((clone_key vk ps.length (psC ps) hk (keys_one ps) zk).imp fun u l1 nw ⟨h1, v9, h2, h3⟩ => ⟨h1, h2 ▸ h3.shows⟩) (shows_room 32 (psC ps) ps.length (flatMap_len keyC_len ps)) rfl rfl fun v1_1 nw1_1 hD1_1 => ?_
  simp only [catL]
  revert v1_1
  intro uK sK
  refine (Qf 238) ?_
  refine e_stV (i := 0) 21 (Uz 24) rfl rfl (shows_oneC sK) rfl rfl (by decide) (.inl rfl) ?_
  refine Qn<|Qs<|QR ⟨[], 4, [], none⟩<|(Qf 0)<|(Qf 2)<|(QV 2 0) ?_
  refine e_callD [(0, _), (1, _)] (by repeat (first | exact bag_nil | exact bag_lab _ | apply bag_skip rfl)) ⟨rfl, rfl, trivial⟩ rfl rfl rfl (Un 65) seenG ((clone_int vp qs.length (qs.map iv) hvp iv_one zp).imp fun u l1 nw ⟨h1, v9, h2, h3⟩ => ⟨h1, h2 ▸ h3.shows⟩) (shows_room 1 (qs.map iv) qs.length (by simp)) rfl rfl fun v1_2 nw1_2 hD1_2 => ?_
  simp only [catL]
  revert v1_2
  intro uP sP
  refine (Qf 0)<|(Qf 2) ?_
  refine e_stV (i := 0) 2 (Uz 25) rfl rfl (shows_oneC sP) rfl rfl (by decide) (.inl rfl) ?_
  refine e_blk (c' := shC b l uP v0 v1 vt fi tn dd y ow r uK us) rfl ?_
  refine Qn<|Qs<|Qs<|Qp<|(Qf 0)<|(Qf 3) ?_
  refine e_ldP (i := 0) (Uu 26) rfl (Uz 26) rfl rfl (by decide) rfl ⟨[], trivial⟩ ?_
  refine e_as (show _ = Value.agg (arrv 2 (fun j => vq v0 v1 j)) from congrArg Value.agg (arrv_congr fun j hj => by have h9 : j = 0 ∨ j = 1 := (by omega); rcases h9 with rfl | rfl <;> rfl)) ?_
  refine (Qm)<|Qn<|Qb ?_
  refine e_loopB [(1, _), (2, _), (19, _)] [(1, _)] (fun kk E m fz => ∃ (a : Nat) (a0 : Value) (a1 : Value), kk = 2 - a ∧ E = [(20, ii a)] ∧ m = [(0, some ⟨r1, shC b l uP a0 a1 vt fi tn dd y ow r uK us, 37⟩)] ∧ (a ≤ 2) ∧ (1 ≤ a → Shows fz 1 a0 p0.length (p0.map iv)) ∧ (2 ≤ a → Shows fz 1 a1 p1.length (p1.map iv)) ∧ (Shows fz 32 uK ps.length (psC ps)) ∧ (Shows fz 1 uP qs.length (qs.map iv))) (k := 2 - 0) (E0 := [(20, ii 0)]) (M0 := [(0, some ⟨r1, shC b l uP v0 v1 vt fi tn dd y ow r uK us, 37⟩)]) (fz := (([] ++ nw1_1) ++ nw1_2)) ⟨0, v0, v1, rfl, rfl, rfl, by omega, (fun h => absurd h (by omega)), (fun h => absurd h (by omega)), (sK.mono (fun x hx => List.mem_append_left _ (List.mem_append_right _ hx))), (sP.mono (fun x hx => List.mem_append_right _ hx))⟩ ⟨rfl, rfl, rfl, rfl, trivial⟩ ⟨rfl, rfl, trivial⟩ (by repeat (first | exact bag_nil | exact bag_lab _ | apply bag_skip rfl)) ?_
  rintro kk E m fz ⟨a, a0, a1, rfl, rfl, rfl, hf0_0, hf0_1, hf0_2, hf0_3, hf0_4⟩
  simp only [catE, catL]
  refine Qs<|Qp<|(Ql)<|Qn<|Qs ?_
  refine e_cond rfl ?_ ?_
  · intro hc0
    have hc0 : a < 2 := by have := of_decide_eq_true hc0; omega
    refine Qk<|Qs<|Qb<|Qs ?_
    rcases (by omega : a = 0 ∨ a = 1) with ha | ha
    · skip
      refine Qp<|(Qm) ?_
      refine e_idxP (Uu 26) (Uu 25) rfl (Uz 25) rfl rfl (by omega) rfl ?_
      refine e_as (show vq v0 v1 a = v0 by rw [ha]; rfl) ?_
      refine (Qa)<|(Qa)<|Qn<|QR ⟨[], 4, [], none⟩<|(Qm)<|(Qm) ?_
      refine e_callD [(0, _), (1, _)] (by repeat (first | exact bag_nil | exact bag_lab _ | apply bag_skip rfl)) ⟨rfl, rfl, trivial⟩ rfl rfl rfl (Un 65) seenG ((clone_int v0 p0.length (p0.map iv) hA0 iv_one z0).imp fun u l1 nw ⟨h1, v9, h2, h3⟩ => ⟨h1, h2 ▸ h3.shows⟩) (shows_room 1 (p0.map iv) p0.length (by simp)) rfl rfl fun v3_3 nw3_3 hD3_3 => ?_
      simp only [catL]
      revert v3_3
      intro uA sA
      refine (Qf 0)<|(Qf 3)<|(QB 3) ?_
      refine e_stV (i := 0) 3 (Uz 25) rfl rfl (shows_oneC sA) rfl rfl (by decide) (.inl rfl) ?_
      refine e_blk (c' := shC b l uP uA a1 vt fi tn dd y ow r uK us) rfl ?_
      refine Qn<|Qp<|(Q2 1)<|(Qm)<|Qn ?_
      refine e_round (E'' := [(20, ii (a + 1))]) (M'' := [(0, some ⟨r1, shC b l uP _ _ vt fi tn dd y ow r uK us, 37⟩)]) (fz' := (fz ++ nw3_3)) ⟨a + 1, _, _, rfl, rfl, rfl, by omega, (fun _ => Shows.mono sA (fun x hx => List.mem_append_right _ hx)), (fun h => absurd h (by omega)), (Shows.mono hf0_3 (fun x hx => List.mem_append_left _ hx)), (Shows.mono hf0_4 (fun x hx => List.mem_append_left _ hx))⟩ ⟨rfl, rfl, rfl, rfl, trivial⟩ ⟨rfl, rfl, trivial⟩ (by repeat (first | exact bag_nil | exact bag_lab _ | apply bag_skip rfl)) (by omega)
    · skip
      refine Qp<|(Qm) ?_
      refine e_idxP (Uu 26) (Uu 25) rfl (Uz 25) rfl rfl (by omega) rfl ?_
      refine e_as (show vq v0 v1 a = v1 by rw [ha]; rfl) ?_
      refine (Qa)<|(Qa)<|Qn<|QR ⟨[], 4, [], none⟩<|(Qm)<|(Qm) ?_
      refine e_callD [(0, _), (1, _)] (by repeat (first | exact bag_nil | exact bag_lab _ | apply bag_skip rfl)) ⟨rfl, rfl, trivial⟩ rfl rfl rfl (Un 65) seenG ((clone_int v1 p1.length (p1.map iv) hA1 iv_one z1).imp fun u l1 nw ⟨h1, v9, h2, h3⟩ => ⟨h1, h2 ▸ h3.shows⟩) (shows_room 1 (p1.map iv) p1.length (by simp)) rfl rfl fun v3_3 nw3_3 hD3_3 => ?_
      simp only [catL]
      revert v3_3
      intro uA sA
      refine (Qf 0)<|(Qf 3)<|(QB 4) ?_
      refine e_stV (i := 0) 4 (Uz 25) rfl rfl (shows_oneC sA) rfl rfl (by decide) (.inl rfl) ?_
      refine e_blk (c' := shC b l uP a0 uA vt fi tn dd y ow r uK us) rfl ?_
      refine Qn<|Qp<|(Q2 1)<|(Qm)<|Qn ?_
      refine e_round (E'' := [(20, ii (a + 1))]) (M'' := [(0, some ⟨r1, shC b l uP _ _ vt fi tn dd y ow r uK us, 37⟩)]) (fz' := (fz ++ nw3_3)) ⟨a + 1, _, _, rfl, rfl, rfl, by omega, (fun _ => Shows.mono (hf0_1 (by omega)) (fun x hx => List.mem_append_left _ hx)), (fun _ => Shows.mono sA (fun x hx => List.mem_append_right _ hx)), (Shows.mono hf0_3 (fun x hx => List.mem_append_left _ hx)), (Shows.mono hf0_4 (fun x hx => List.mem_append_left _ hx))⟩ ⟨rfl, rfl, rfl, rfl, trivial⟩ ⟨rfl, rfl, trivial⟩ (by repeat (first | exact bag_nil | exact bag_lab _ | apply bag_skip rfl)) (by omega)
  · intro hc0
    have hc0 := of_decide_eq_false hc0
    have hz0 : a = 2 := by omega
    refine Qe<|Qs<|QR ⟨[], 4, [], none⟩<|(Qf 0)<|(Qf 5)<|(QV 5 0) ?_
    refine e_callN 2 (fun v => v) rfl rfl (Un 66) seenG (clone_ints vt tvs.length tvs hvt (li_one hT) zt) (by simp only [maxLen]; omega) (by rw [Nat.mul_one]) rfl rfl fun v2_3 oz2_3 ho2_3 => ?_
    refine (Qf 0)<|(Qf 5) ?_
    refine e_stV (i := 0) 5 (Uz 27) rfl rfl (shows_oneC ho2_3.shows) rfl rfl (by decide) (.inl rfl) ?_
    refine Qn<|Qs<|Qs<|Qp<|(Qf 0)<|(Qf 5)<|(QV 5 0)<|(QC ho2_3.shows)<|(Qm)<|Qn<|Qb ?_
    refine e_loopB [(1, _), (2, _), (19, _), (20, _), (39, _), (40, _)] [(0, _), (1, _)] (fun kk E m fy => ∃ (i : Nat) (xs : List Value) (oz : Option Blk), kk = tvs.length - i ∧ E = [(41, ii i)] ∧ m = [(2, oz)] ∧ (i ≤ tvs.length) ∧ (OwnS 25 1 v2_3 tvs.length xs (Option.toList oz)) ∧ (xs.length = tvs.length) ∧ (∀ j, j < i → Shows fy 1 (xs.getD j undef) (ts.getD j []).length ((ts.getD j []).map iv)) ∧ (∀ j, i ≤ j → xs.getD j undef = tvs.getD j undef) ∧ (∀ x ∈ fz, x ∈ fy)) (k := tvs.length - 0) (E0 := [(41, ii 0)]) (M0 := [(2, oz2_3)]) (fz := fz) ⟨0, tvs, oz2_3, rfl, rfl, rfl, by omega, ho2_3, rfl, (fun j hj => absurd hj (Nat.not_lt_zero j)), (fun _ _ => rfl), (fun _ h => h)⟩ ⟨rfl, rfl, rfl, rfl, rfl, rfl, rfl, trivial⟩ ⟨rfl, rfl, rfl, trivial⟩ (by repeat (first | exact bag_nil | exact bag_lab _ | apply bag_skip rfl)) ?_
    rintro kk E m fy ⟨i, xs, oz, rfl, rfl, rfl, hf1_0, hf1_1, hf1_2, hf1_3, hf1_4, hf1_5⟩
    simp only [catE, catL]
    refine Qs<|Qp<|(Ql)<|Qn<|Qs ?_
    refine e_cond rfl ?_ ?_
    · intro hc1
      have hc1 : i < tvs.length := by have := of_decide_eq_true hc1; omega
      refine Qk<|Qs<|Qb<|Qs<|Qp<|(Qm) ?_
      refine e_atV hf1_1.shows (Uu 27) (Uz 25) rfl rfl (by omega) rfl ?_
      refine (QS) ?_
      refine e_loadV hf1_1.shows (seenM 2 rfl ⟨[], trivial⟩) (Uu 25) rfl rfl (get_getD (by omega)) rfl ?_
      refine e_as (hf1_4 i (Nat.le_refl i)) ?_
      refine (Qa)<|(Qa)<|Qn<|(Qq ⟨[], 4, [], none⟩)<|(Qf 0)<|(Qf 5)<|(QV 5 0)<|(Qm)<|(Qm) ?_
      refine e_callD [(0, _), (1, _), (2, _)] (by repeat (first | exact bag_nil | exact bag_lab _ | apply bag_skip rfl)) ⟨rfl, rfl, rfl, trivial⟩ rfl rfl rfl (Un 65) seenG ((clone_int (tvs.getD i undef) (ts.getD i []).length ((ts.getD i []).map iv) (hT.2 i (by omega)) iv_one (zl _ (List.mem_cons_of_mem _ (List.mem_cons_of_mem _ (getD_in (by omega)))))).imp fun u l1 nw ⟨h1, v9, h2, h3⟩ => ⟨h1, h2 ▸ h3.shows⟩) (shows_room 1 ((ts.getD i []).map iv) (ts.getD i []).length (by simp)) rfl rfl fun v3_4 nw3_4 hD3_4 => ?_
      simp only [catL]
      revert v3_4
      intro uN sN
      refine e_atV hf1_1.shows (Uu 27) (Uz 25) rfl rfl (by omega) rfl ?_
      refine (QS) ?_
      refine e_stOwn (i := 2) hf1_1 (Uz 25) rfl rfl (shows_oneC sN) rfl (by omega) rfl fun oz3_5 ho3_5 => ?_
      refine Qn<|Qp<|(Q2 1)<|(Qm)<|Qn ?_
      refine e_round (E'' := [(41, ii (i + 1))]) (M'' := [(2, _)]) (fz' := (fy ++ nw3_4)) ⟨i + 1, xs.set i uN, _, rfl, rfl, rfl, by omega, ho3_5, (by rw [List.length_set]; exact hf1_2), (fun j hj => by rw [set_at (by omega)]; by_cases e : j = i; (rw [if_pos e, e]; exact Shows.mono sN (fun x hx => List.mem_append_right _ hx)); (rw [if_neg e]; exact Shows.mono (hf1_3 j (by omega)) (fun x hx => List.mem_append_left _ hx))), (fun j hj => by rw [set_at (by omega), if_neg (by omega)]; exact hf1_4 j (by omega)), (fun x hx => List.mem_append_left _ (hf1_5 x hx))⟩ ⟨rfl, rfl, rfl, rfl, rfl, rfl, rfl, trivial⟩ ⟨rfl, rfl, rfl, trivial⟩ (by repeat (first | exact bag_nil | exact bag_lab _ | apply bag_skip rfl)) (by omega)
    · intro hc1
      have hc1 := of_decide_eq_false hc1
      have hz1 : i = tvs.length := by omega
      refine Qe<|Qs<|Qp<|(QD 0) ?_
      refine e_freeze 2 [(0, _), (1, _)] rfl rfl (by repeat (first | exact bag_nil | exact bag_lab _ | apply bag_skip rfl)) ⟨rfl, rfl, trivial⟩ rfl rfl ?_
      simp only [catL]
      refine e_storeA (i := 1) (Uz 37) rfl rfl (arrv_size _ _) (cells_one ⟨fun _ => rfl, fun _ => rfl, fun _ => shows_oneC hf0_4, fun _ => shows_oneC (hf0_1 (by omega)), fun _ => shows_oneC (hf0_2 (by omega)), fun _ => shows_oneC hf1_1.shows, fun _ => rfl, fun _ => rfl, fun _ => rfl, fun _ => rfl, fun _ => rfl, fun _ => rfl, fun _ => rfl, fun _ => rfl, fun _ => rfl, fun _ => rfl, fun _ => rfl, fun _ => rfl, fun _ => rfl, fun _ => rfl, fun _ => rfl, fun _ => shows_oneC hf0_3, fun _ => rfl, trivial⟩) rfl cells_sz (.inl rfl) ?_
      refine Qn<|Qr ?_
      exact ⟨_, _, (fy ++ oz.toList), rfl, .cell (i := 1) rfl rfl (Uu 37) rfl (Uz 37) (arrv_size _ _), ⟨uP, a0, a1, _, uK, xs, rfl, hf0_4.mono (fun x hx => List.mem_append_left _ (hf1_5 x hx)), Shows.mono (show Shows oz.toList 1 _ xs.length xs by rw [hf1_2]; exact hf1_1.shows) (fun x hx => List.mem_append_right _ hx), li_mono (li_app ((hf0_1 (by omega)).mono hf1_5) ((hf0_2 (by omega)).mono hf1_5) (by omega) (fun j hj => hf1_3 j (by omega))) (fun x hx => List.mem_append_left _ hx), hf0_3.mono (fun x hx => List.mem_append_left _ (hf1_5 x hx)), shows_oneC hf0_4, shows_oneC (hf0_1 (by omega)), shows_oneC (hf0_2 (by omega)), shows_oneC hf1_1.shows, shows_oneC hf0_3⟩, (by repeat (first | exact bag_nil | exact bag_lab _ | apply bag_skip rfl))⟩
end Go.Proofs.YthljakcegoohlaaGreatDoor
namespace Go.Proofs.YthljakcegoohlaaGreatDoor
open Go Go.RowKit
variable {G : Mem}
set_option maxHeartbeats 400000 in
theorem tell_fn (r : Nat) (es : List Ev) (w k : Nat) (hw : w < 2) (hk : k = 1 ∨ k = 2) : Fx Tryz.prog G [(⟨r, kst (stE es), 217⟩ : Blk)] 210 #[ptr r, ii w, ii k] (fun v l1 nw => nw = [] ∧ ∃ c', l1 = [⟨r, c', 217⟩] ∧ (v = Value.bool (!(hap es w k)) ∧ ((!(hap es w k)) = true → c' = kst (stE (es ++ [(w, k)]))))) := by
  refine fxWS (n := 22) Tryz.func210 rfl rfl (by simp) (argE [ptr r, ii w, ii k] 0) (argE_ok _) ?_
  refine Qs<|Qp<|(Qa)<|Qn<|Qs<|Qs<|Qp<|(Qm)<|(Qm)<|(Qm) ?_
  refine e_nilCheck rfl rfl ?_
  refine (Qf 0)<|(QB (3 * w))<|(QB (3 * w + k)) ?_
  refine e_load1 (i := 0) (Uu 4) rfl rfl rfl (arrv_get (by omega)) rfl ⟨[], trivial⟩ ?_
  refine e_as (show _ = Value.bool (hap es w k) from congrArg Value.bool (stE_key hk hw)) ?_
  refine Qn ?_
  refine e_cond rfl ?_ ?_
  · intro hc0
    refine Qs<|Qp<|(Qa)<|Qn<|Qr ?_
    exact ⟨_, _, _, rfl, .tmp rfl, (by first | exact ⟨by rw [hc0]; rfl, fun _ => kst_key hk hw⟩ | exact ⟨by rw [hc0]; rfl, fun h => by rw [hc0] at h; cases h⟩), 0, rfl⟩
  · intro hc0
    refine Qk<|Qs<|Qp<|(Qm)<|(Qm)<|(Qm) ?_
    refine e_nilCheck rfl rfl ?_
    refine (Qf 0)<|(QB (3 * w))<|(QB (3 * w + k)) ?_
    refine e_st1 (i := 0) (Uz 4) rfl rfl rfl rfl (by omega) (.inl rfl) ?_
    refine Qn<|Qs<|Qp<|(Qa)<|Qn<|Qr ?_
    exact ⟨_, _, _, rfl, .tmp rfl, (by first | exact ⟨by rw [hc0]; rfl, fun _ => kst_key hk hw⟩ | exact ⟨by rw [hc0]; rfl, fun h => by rw [hc0] at h; cases h⟩), 0, rfl⟩
set_option maxHeartbeats 400000 in
theorem letters_fn (t : Nat) : Fn Tryz.prog G 265 #[ii t] (.agg (arr .i64 2 (ltr t))) := by
  refine Qf1 Tryz.func265 ?_
  refine Qs<|Qp<|(QH 0) fun r1=>Qn<|Qs<|Qs<|Qp<|(Qm)<|Qn<|Qb<|Qs<|Qp<|(Qc)<|(Qa)<|Qn ?_
  refine e_cond rfl ?_ ?_
  · intro hc0
    obtain rfl : t = 3 := by have := of_decide_eq_true hc0; omega
    refine Qs<|Qp ?_
    refine e_build (arr .i64 2 (ltr 3)) (Ub 325 rfl) (Uu 325 rfl) (Uz 3 rfl) rfl (by kernel_rfl) rfl ?_
    refine (Qt 0)<|Qn<|Qr ?_
    first | (rw [show ltr t = ltr 6 by funext j; unfold ltr; rw [if_neg hn0, if_neg hn1, if_neg hn2]; rfl]) | skip
    exact ⟨_, rfl, .cell (i := 0) rfl rfl (Uu 325) rfl (Uz 325) (arr_size _ _ _)⟩
  · intro hc0
    have hn0 : ¬ t = 3 := by have := of_decide_eq_false hc0; omega
    refine Qs<|Qp<|(Qc)<|(Qa)<|Qn ?_
    refine e_cond rfl ?_ ?_
    · intro hc1
      obtain rfl : t = 4 := by have := of_decide_eq_true hc1; omega
      refine Qs<|Qp ?_
      refine e_build (arr .i64 2 (ltr 4)) (Ub 325 rfl) (Uu 325 rfl) (Uz 3 rfl) rfl (by kernel_rfl) rfl ?_
      refine (Qt 0)<|Qn<|Qr ?_
      first | (rw [show ltr t = ltr 6 by funext j; unfold ltr; rw [if_neg hn0, if_neg hn1, if_neg hn2]; rfl]) | skip
      exact ⟨_, rfl, .cell (i := 0) rfl rfl (Uu 325) rfl (Uz 325) (arr_size _ _ _)⟩
    · intro hc1
      have hn1 : ¬ t = 4 := by have := of_decide_eq_false hc1; omega
      refine Qs<|Qp<|(Qc)<|(Qa)<|Qn ?_
      refine e_cond rfl ?_ ?_
      · intro hc2
        obtain rfl : t = 5 := by have := of_decide_eq_true hc2; omega
        refine Qs<|Qp ?_
        refine e_build (arr .i64 2 (ltr 5)) (Ub 325 rfl) (Uu 325 rfl) (Uz 3 rfl) rfl (by kernel_rfl) rfl ?_
        refine (Qt 0)<|Qn<|Qr ?_
        first | (rw [show ltr t = ltr 6 by funext j; unfold ltr; rw [if_neg hn0, if_neg hn1, if_neg hn2]; rfl]) | skip
        exact ⟨_, rfl, .cell (i := 0) rfl rfl (Uu 325) rfl (Uz 325) (arr_size _ _ _)⟩
      · intro hc2
        have hn2 : ¬ t = 5 := by have := of_decide_eq_false hc2; omega
        refine Qk<|Qs<|Qp ?_
        refine e_build (arr .i64 2 (ltr 6)) (Ub 325 rfl) (Uu 325 rfl) (Uz 3 rfl) rfl (by kernel_rfl) rfl ?_
        refine (Qt 0)<|Qn<|Qr ?_
        first | (rw [show ltr t = ltr 6 by funext j; unfold ltr; rw [if_neg hn0, if_neg hn1, if_neg hn2]; rfl]) | skip
        exact ⟨_, rfl, .cell (i := 0) rfl rfl (Uu 325) rfl (Uz 325) (arr_size _ _ _)⟩
set_option maxHeartbeats 2000000 in
theorem dlock_fn (r : Nat) (s : Nat → Bool) (w : Nat) (hw : w < 2) : Fn Tryz.prog ((⟨r, kst s, 217⟩ : Blk) :: G) 212 #[ptr r, ii w] (.bool (mlS s w)) := by
  have hmo : 4 ≤ mown (w : Int) ∧ mown (w : Int) ≤ 5 := by unfold mown; split <;> omega
  have hmf : 4 ≤ mfre (w : Int) ∧ mfre (w : Int) ≤ 5 := by unfold mfre; split <;> omega
  refine Qf1 Tryz.func212 ?_
  refine Qs<|Qp<|(Qa)<|Qn<|Qs<|Qp<|(Qa)<|(Qa)<|Qn<|Qs<|Qs<|Qp<|(Qm)<|(Qc)<|Qn ?_
  refine s_join [(0, _), (1, _), (4, _), (7, _), (8, _)] [(5, ii (mown w)), (6, ii (mfre w))] [] ⟨rfl, rfl, rfl, rfl, rfl, trivial⟩ trivial ?_ ?_
  · skip
    refine e_cond rfl ?_ ?_
    · intro hc0
      have hc0 := of_decide_eq_true hc0
      refine Qp<|(Qm)<|(Qm)<|(Qa)<|(Qa)<|Qn ?_
      exact ⟨⟨rfl, rfl, rfl, rfl, rfl, trivial⟩, ⟨(by first | rw [mown, if_pos (by assumption)]; rfl | rw [mown, if_neg (by assumption)]; rfl), (by first | rw [mfre, if_pos (by assumption)]; rfl | rw [mfre, if_neg (by assumption)]; rfl), trivial⟩, trivial⟩
    · intro hc0
      have hc0 := of_decide_eq_false hc0
      refine Qk ?_
      exact ⟨⟨rfl, rfl, rfl, rfl, rfl, trivial⟩, ⟨(by first | rw [mown, if_pos (by assumption)]; rfl | rw [mown, if_neg (by assumption)]; rfl), (by first | rw [mfre, if_pos (by assumption)]; rfl | rw [mfre, if_neg (by assumption)]; rfl), trivial⟩, trivial⟩
  · simp only [catE]
    refine Qs<|Qs<|Qp ?_
    refine e_join [(0, _), (1, _), (4, _), (5, _), (6, _), (7, _), (8, _)] [(25, .bool (s 13 && !(s (3 * w + 1))))] [] ⟨rfl, rfl, rfl, rfl, rfl, rfl, rfl, trivial⟩ trivial ?_ ?_
    · skip
      refine (Qm) ?_
      refine e_nilCheck rfl rfl ?_
      refine (Qf 6)<|(QA 13 7) ?_
      refine e_load1g (i := 0) (Uu 4) rfl rfl rfl (arrv_get (by decide)) rfl ?_
      refine e_as (show _ = Value.bool (s 13) from rfl) ?_
      refine (Qm) ?_
      refine e_case (fun hb0 => ?_) (fun hb0 => ?_)
      · skip
        refine (Qy)<|(Qm)<|(Qy)<|(Qm)<|(Qy) ?_
        refine e_nilCheck rfl rfl ?_
        refine (Qy)<|(Qf 0)<|(Qy)<|(QB (3 * w))<|(Qy)<|(QA (3 * w + 1) 1)<|(Qy) ?_
        refine e_load1g (i := 0) (Uu 4) rfl rfl rfl (arrv_get (by omega)) rfl ?_
        refine e_as (show _ = Value.bool (s (3 * w + 1)) from rfl) ?_
        refine (Qy)<|(Q0)<|(QT)<|Qn ?_
        exact ⟨⟨rfl, rfl, rfl, rfl, rfl, rfl, rfl, trivial⟩, ⟨bool_fin (by rw [hb0] <;> rfl), trivial⟩, trivial⟩
      · skip
        refine (Qo)<|(Qo)<|(Qo)<|(Qo)<|(Qo)<|(Qo)<|(Qo)<|(Qo)<|(QF)<|Qn ?_
        exact ⟨⟨rfl, rfl, rfl, rfl, rfl, rfl, rfl, trivial⟩, ⟨bool_fin (by rw [hb0] <;> rfl), trivial⟩, trivial⟩
    · simp only [catE]
      refine e_cond rfl ?_ ?_
      · intro hc1
        rw [show mlS s w = false by rw [mlS, hc1]; rfl]
        refine Qs<|Qp<|(Qa)<|Qn<|Qr ?_
        exact ⟨_, rfl, .tmp rfl⟩
      · intro hc1
        have hz1 := hc1
        refine Qk<|Qs<|Qs<|Qp ?_
        refine e_join [(0, _), (1, _), (4, _), (5, _), (6, _), (7, _), (8, _), (25, _)] [(39, .bool (s (6 + mown w) && !(s 9)))] [] ⟨rfl, rfl, rfl, rfl, rfl, rfl, rfl, rfl, trivial⟩ trivial ?_ ?_
        · skip
          refine (Qm)<|(Qm) ?_
          refine e_nilCheck rfl rfl ?_
          refine (Qf 6)<|(QB (6 + mown w)) ?_
          refine e_load1g (i := 0) (Uu 4) rfl rfl rfl (arrv_get (by omega)) rfl ?_
          refine e_as (show _ = Value.bool (s (6 + mown w)) from rfl) ?_
          refine (Qm) ?_
          refine e_case (fun hb1 => ?_) (fun hb1 => ?_)
          · skip
            refine (Qy)<|(Qm)<|(Qy) ?_
            refine e_nilCheck rfl rfl ?_
            refine (Qy)<|(Qf 6)<|(Qy)<|(QA 9 3)<|(Qy) ?_
            refine e_load1g (i := 0) (Uu 4) rfl rfl rfl (arrv_get (by decide)) rfl ?_
            refine e_as (show _ = Value.bool (s 9) from rfl) ?_
            refine (Qy)<|(Q0)<|(QT)<|Qn ?_
            exact ⟨⟨rfl, rfl, rfl, rfl, rfl, rfl, rfl, rfl, trivial⟩, ⟨bool_fin (by rw [hb1] <;> rfl), trivial⟩, trivial⟩
          · skip
            refine (Qo)<|(Qo)<|(Qo)<|(Qo)<|(Qo)<|(Qo)<|(QF)<|Qn ?_
            exact ⟨⟨rfl, rfl, rfl, rfl, rfl, rfl, rfl, rfl, trivial⟩, ⟨bool_fin (by rw [hb1] <;> rfl), trivial⟩, trivial⟩
        · simp only [catE]
          refine e_cond rfl ?_ ?_
          · intro hc2
            rw [show mlS s w = false by rw [mlS, hz1, hc2]; rfl]
            refine Qs<|Qp<|(Qa)<|Qn<|Qr ?_
            exact ⟨_, rfl, .tmp rfl⟩
          · intro hc2
            rw [show mlS s w = (!(s 12) || s (6 + mfre w)) by rw [mlS, hz1, hc2]; rfl]
            refine Qk<|Qs<|Qp ?_
            refine e_join [(0, _), (1, _), (5, _), (6, _), (7, _), (8, _), (25, _), (39, _)] [(4, .bool (!(s 12) || s (6 + mfre w)))] [] ⟨rfl, rfl, rfl, rfl, rfl, rfl, rfl, rfl, trivial⟩ trivial ?_ ?_
            · skip
              refine (Qm) ?_
              refine e_nilCheck rfl rfl ?_
              refine (Qf 6)<|(QA 12 6) ?_
              refine e_load1g (i := 0) (Uu 4) rfl rfl rfl (arrv_get (by decide)) rfl ?_
              refine e_as (show _ = Value.bool (s 12) from rfl) ?_
              refine (Q0)<|(Qm) ?_
              refine e_case (fun hb2 => ?_) (fun hb2 => ?_)
              · skip
                refine (Qo)<|(Qo)<|(Qo)<|(Qo)<|(Qo)<|(Qo)<|(QT)<|(Qa)<|Qn ?_
                exact ⟨⟨rfl, rfl, rfl, rfl, rfl, rfl, rfl, rfl, trivial⟩, ⟨bool_fin (by rw [hb2] <;> rfl), trivial⟩, trivial⟩
              · skip
                refine (Qy)<|(Qm)<|(Qy)<|(Qm)<|(Qy) ?_
                refine e_nilCheck rfl rfl ?_
                refine (Qy)<|(Qf 6)<|(Qy)<|(QB (6 + mfre w))<|(Qy) ?_
                refine e_load1g (i := 0) (Uu 4) rfl rfl rfl (arrv_get (by omega)) rfl ?_
                refine e_as (show _ = Value.bool (s (6 + mfre w)) from rfl) ?_
                refine (QF)<|(Qa)<|Qn ?_
                exact ⟨⟨rfl, rfl, rfl, rfl, rfl, rfl, rfl, rfl, trivial⟩, ⟨bool_fin (by rw [hb2] <;> rfl), trivial⟩, trivial⟩
            · simp only [catE]
              refine Qr ?_
              exact ⟨_, rfl, .tmp rfl⟩
set_option maxHeartbeats 2000000 in
theorem chkl_fn (v : Value) (vs : List Value) (ls : List (List Int)) (hv : Shows G 1 v vs.length vs) (hL : ShowsLI G vs ls) (hn : vs.length ≤ 1000000) : Fn Tryz.prog G 113 #[v] (ii (first1 ls)) := by
  have hvl := hL.1
  refine Qf1 Tryz.func113 ?_
  refine Qs<|Qp<|(Qa)<|Qn<|Qs<|Qs<|Qp<|(Qm)<|(QC hv)<|(Qm)<|Qn<|Qb ?_
  refine QzK [(7, _), (8, _)] [] (fun kk E m => ∃ (i : Nat), kk = vs.length - i ∧ E = [(9, ii i)] ∧ m = [] ∧ (i ≤ vs.length) ∧ (∀ q, q < i → (ls.getD q []).length ≤ 6 ∧ (ls.getD q []).any wrong = false)) ⟨0, rfl, rfl, rfl, by omega, fun _ h => absurd h (Nat.not_lt_zero _)⟩ ⟨rfl, rfl, rfl, trivial⟩ trivial ?_
  rintro kk E m ⟨i, rfl, rfl, rfl, hf0_0, hf0_1⟩
  simp only [catE, catL]
  refine Qs<|Qp<|(Ql)<|Qn<|Qs ?_
  refine e_cond rfl ?_ ?_
  · intro hc0
    have hc0 : i < vs.length := by have := of_decide_eq_true hc0; omega
    refine Qk<|Qs<|Qb<|Qs<|Qp ?_
    refine e_atV hv (Uu 27) (Uz 25) rfl rfl (by omega) rfl ?_
    refine (QS) ?_
    refine e_loadV hv seenG (Uu 25) rfl rfl (get_getD (by omega)) rfl ?_
    refine (Qa)<|Qn<|Qs<|Qs<|Qp<|(Qm)<|(QC (hL.2 i (by omega)))<|(QG)<|Qn ?_
    refine e_cond rfl ?_ ?_
    · intro hc1
      have hc1 := of_decide_eq_true hc1
      rw [first1_at (by omega) hf0_1, first1, if_pos (by omega)]
      refine Qs<|Qp<|(Qa)<|Qn<|Qr ?_
      first | rw [first1_none (fun q hq => hf0_1 q (by omega))] | skip
      exact ⟨_, rfl, .tmp rfl⟩
    · intro hc1
      have hc1 := of_decide_eq_false hc1
      refine Qk<|Qs<|Qp<|(Qm)<|(QC (hL.2 i (by omega)))<|(Qm)<|Qn<|Qb ?_
      refine QzK [(7, _), (8, _), (9, _), (16, _), (17, _)] [] (fun kk E m => ∃ (j : Nat), kk = (ls.getD i []).length - j ∧ E = [(18, ii j)] ∧ m = [] ∧ (j ≤ (ls.getD i []).length) ∧ (∀ p, p < j → wrong ((ls.getD i []).getD p 0) = false)) ⟨0, rfl, rfl, rfl, by omega, fun _ h => absurd h (Nat.not_lt_zero _)⟩ ⟨rfl, rfl, rfl, rfl, rfl, rfl, trivial⟩ trivial ?_
      rintro kk E m ⟨j, rfl, rfl, rfl, hf1_0, hf1_1⟩
      simp only [catE, catL]
      refine Qs<|Qp<|(Ql)<|Qn<|Qs ?_
      refine e_cond rfl ?_ ?_
      · intro hc2
        have hc2 : j < (ls.getD i []).length := by have := of_decide_eq_true hc2; omega
        refine Qk<|Qs<|Qb<|Qs<|Qp ?_
        refine e_atV (hL.2 i (by omega)) (Uu 25) (Uz 3) rfl rfl (by omega) rfl ?_
        refine (QS) ?_
        refine e_loadV (hL.2 i (by omega)) seenG (Uu 3) rfl rfl (iv_at (by omega)) rfl ?_
        refine (Qa)<|Qn<|Qs<|Qp ?_
        refine e_join [(6, _), (7, _), (8, _), (9, _), (16, _), (17, _), (18, _), (19, _), (20, _), (21, _)] [(27, .bool (wrong ((ls.getD i []).getD j 0)))] [] ⟨rfl, rfl, rfl, rfl, rfl, rfl, rfl, rfl, rfl, rfl, trivial⟩ trivial ?_ ?_
        · skip
          refine (Qm)<|(Ql)<|(Qm) ?_
          refine e_case (b := decide ((ls.getD i []).getD j 0 < 1)) (fun hb0 => ?_) (fun hb0 => ?_)
          · skip
            refine (Qo)<|(Qo)<|(QT)<|Qn ?_
            exact ⟨⟨rfl, rfl, rfl, rfl, rfl, rfl, rfl, rfl, rfl, rfl, trivial⟩, ⟨bool_fin (by rw [wrong, hb0] <;> rfl), trivial⟩, trivial⟩
          · skip
            refine (Qy)<|(Qm)<|(Qy)<|(QG)<|(QF)<|Qn ?_
            exact ⟨⟨rfl, rfl, rfl, rfl, rfl, rfl, rfl, rfl, rfl, rfl, trivial⟩, ⟨bool_fin (by rw [wrong, hb0] <;> rfl), trivial⟩, trivial⟩
        · simp only [catE]
          refine e_cond rfl ?_ ?_
          · intro hc3
            rw [first1_at (by omega) hf0_1, first1, if_neg (by omega), any_at (by omega) hc3, if_pos rfl]
            refine Qs<|Qp<|(Qa)<|Qn<|Qr ?_
            first | rw [first1_none (fun q hq => hf0_1 q (by omega))] | skip
            exact ⟨_, rfl, .tmp rfl⟩
          · intro hc3
            have hcf := hc3
            refine Qk<|Qp<|(Q2 1)<|(Qm)<|Qn ?_
            refine QzL ⟨j + 1, rfl, rfl, rfl, by omega, fun p h => by by_cases e : p = j; (subst e; exact hcf); exact hf1_1 p (by omega)⟩ ⟨rfl, rfl, rfl, rfl, rfl, rfl, trivial⟩ trivial ?_
            omega
      · intro hc2
        have hc2 := of_decide_eq_false hc2
        have hz1 : j = (ls.getD i []).length := by omega
        refine Qe<|Qp<|(Q2 1)<|(Qm)<|Qn ?_
        refine QzL ⟨i + 1, rfl, rfl, rfl, by omega, fun q h => by by_cases e : q = i; (subst e; exact ⟨by omega, any_none (fun p hp => hf1_1 p (by omega))⟩); exact hf0_1 q (by omega)⟩ ⟨rfl, rfl, rfl, trivial⟩ trivial ?_
        omega
  · intro hc0
    have hc0 := of_decide_eq_false hc0
    have hz0 : i = vs.length := by omega
    refine Qe<|Qs<|Qp<|(Qa)<|Qn<|Qr ?_
    first | rw [first1_none (fun q hq => hf0_1 q (by omega))] | skip
    exact ⟨_, rfl, .tmp rfl⟩
end Go.Proofs.YthljakcegoohlaaGreatDoor
namespace Go.Proofs.YthljakcegoohlaaGreatDoor
open Go Go.RowKit
variable {G : Mem}
set_option maxHeartbeats 4000000 in
theorem ahead_fn (r : Nat) (es : List Ev) (w : Nat) (hw : w < 2) (v : Value) (l : List Nat) (hv : Shows G 1 v l.length ((ci l).map iv)) (ht : ∀ x ∈ l, 1 ≤ x ∧ x ≤ 7) (hz : l.length ≤ 1000) : Fx Tryz.prog G [(⟨r, kst (stE es), 217⟩ : Blk)] 162 #[ptr r, ii w, v] (fun u l1 nw => nw = [] ∧ ∃ c', l1 = [⟨r, c', 217⟩] ∧ (u = Value.bool (okPR es w l) ∧ ((okPR es w l) = true → c' = kst (stE (es ++ rowE w l))))) := by
  refine fxWS (n := 29) Tryz.func162 rfl rfl (by simp) (argE [ptr r, ii w, v] 0) (argE_ok _) ?_
  refine Qs<|Qp<|(Qa)<|Qn<|Qs<|Qs<|Qp<|(Qm)<|(QC hv)<|(Qm)<|Qn<|Qb ?_
  refine QzK [(0, _), (1, _), (9, _), (10, _)] [] (fun kk E m => ∃ (j : Nat), kk = l.length - j ∧ E = [(11, ii j)] ∧ m = [(0, some ⟨r, kst (stE (es ++ (rowE w l).take j)), 217⟩)] ∧ (j ≤ l.length) ∧ (∀ t, t < j → okPre (es ++ (rowE w l).take t) (w, l.getD t 0) = true)) ⟨0, rfl, rfl, rfl, by omega, fun t ht => absurd ht (Nat.not_lt_zero t)⟩ ⟨rfl, rfl, rfl, rfl, rfl, trivial⟩ ⟨(by rw [rowE_zero] <;> rfl), trivial⟩ ?_
  rintro kk E m ⟨j, rfl, rfl, rfl, hf0_0, hf0_1⟩
  simp only [catE, catL]
  refine Qs<|Qp<|(Ql)<|Qn<|Qs ?_
  refine e_cond rfl ?_ ?_
  · intro hc0
    have hc0 : j < l.length := by have := of_decide_eq_true hc0; omega
    refine Qk<|Qs<|Qb<|Qs<|Qp ?_
    refine e_atV hv (Uu 25) (Uz 3) rfl rfl (by omega) rfl ?_
    refine (QS) ?_
    refine e_loadV hv seenG (Uu 3) rfl rfl (ci_at (by omega)) rfl ?_
    refine e_gen_i fun x hx => ?_
    refine (Qa)<|Qn ?_
    have hx9 := ht (l.getD j 0) (by rw [List.getD_eq_getElem?_getD, List.getElem?_eq_getElem (by omega)]; exact List.getElem_mem _)
    rw [← hx] at hx9
    refine Qs ?_
    rcases (by omega : x = 1 ∨ x = 2 ∨ 2 < x) with e1 | e2 | e3
    · skip
      refine QR ⟨[], 5, [], none⟩<|(Qm)<|(QN)<|(Qaf)<|(Qm)<|(Qo)<|(Qo)<|(QF)<|(Qm)<|(Qy)<|(Qm)<|(Qy)<|(Qm)<|(Qy)<|(Qm)<|(Qy) ?_
      refine e_callWS 0 rfl rfl (Un 210) rfl (fun _ h => by cases h) (tell_fn (G := []) r (es ++ (rowE w l).take j) w x hw (.inl e1)) ⟨_, _, rfl, fun _ => rfl⟩ rfl rfl fun v3_1 c3_1 hS3_1 => ?_
      obtain ⟨rfl, hq1⟩ := hS3_1
      refine (Qy)<|(Q0)<|(QF)<|Qn ?_
      refine e_cond rfl ?_ ?_
      · intro hc1
        have hap1 : hap (es ++ (rowE w l).take j) w x = true := by simpa using hc1
        have hbad : okPre (es ++ (rowE w l).take j) (w, l.getD j 0) = false := by rw [okPre_tok, ← hx, hap1]; simp
        have hrow := okPR_bad (show j < l.length by omega) hbad
        refine Qs<|Qp<|(Qa)<|Qn<|Qr ?_
        exact ⟨_, _, _, rfl, .tmp rfl, (by first | exact ⟨by rw [hrow], fun h => by rw [hrow] at h; cases h⟩ | (rw [hz0, rowE_all]; exact ⟨by rw [okPR_ok (fun t h => hf0_1 t (by omega))], fun _ => rfl⟩)), 0, rfl⟩
      · intro hc1
        have hap0 : hap (es ++ (rowE w l).take j) w x = false := by simpa using hc1
        have hok : okPre (es ++ (rowE w l).take j) (w, l.getD j 0) = true := by rw [okPre_tok, ← hx, hap0, decide_eq_true (by omega)]; rfl
        obtain rfl := hq1 (by rw [hap0]; rfl)
        refine Qk<|Qp<|(Q2 1)<|(Qm)<|Qn ?_
        refine QzL ⟨j + 1, rfl, rfl, rfl, by omega, fun t ht => by rcases (by omega : t < j ∨ t = j) with h | rfl; exact hf0_1 t h; exact hok⟩ ⟨rfl, rfl, rfl, rfl, rfl, trivial⟩ ⟨(by rw [rowE_next (by omega), ← hx] <;> rfl), trivial⟩ ?_
        omega
    · skip
      refine QR ⟨[], 5, [], none⟩<|(Qm)<|(QN)<|(Qat)<|(Qm)<|(Qy)<|(Qm)<|(Qy)<|(QN)<|(Qaf)<|(QT)<|(Qm)<|(Qy)<|(Qm)<|(Qy)<|(Qm)<|(Qy)<|(Qm)<|(Qy) ?_
      refine e_callWS 0 rfl rfl (Un 210) rfl (fun _ h => by cases h) (tell_fn (G := []) r (es ++ (rowE w l).take j) w x hw (.inr e2)) ⟨_, _, rfl, fun _ => rfl⟩ rfl rfl fun v3_1 c3_1 hS3_1 => ?_
      obtain ⟨rfl, hq1⟩ := hS3_1
      refine (Qy)<|(Q0)<|(QF)<|Qn ?_
      refine e_cond rfl ?_ ?_
      · intro hc1
        have hap1 : hap (es ++ (rowE w l).take j) w x = true := by simpa using hc1
        have hbad : okPre (es ++ (rowE w l).take j) (w, l.getD j 0) = false := by rw [okPre_tok, ← hx, hap1]; simp
        have hrow := okPR_bad (show j < l.length by omega) hbad
        refine Qs<|Qp<|(Qa)<|Qn<|Qr ?_
        exact ⟨_, _, _, rfl, .tmp rfl, (by first | exact ⟨by rw [hrow], fun h => by rw [hrow] at h; cases h⟩ | (rw [hz0, rowE_all]; exact ⟨by rw [okPR_ok (fun t h => hf0_1 t (by omega))], fun _ => rfl⟩)), 0, rfl⟩
      · intro hc1
        have hap0 : hap (es ++ (rowE w l).take j) w x = false := by simpa using hc1
        have hok : okPre (es ++ (rowE w l).take j) (w, l.getD j 0) = true := by rw [okPre_tok, ← hx, hap0, decide_eq_true (by omega)]; rfl
        obtain rfl := hq1 (by rw [hap0]; rfl)
        refine Qk<|Qp<|(Q2 1)<|(Qm)<|Qn ?_
        refine QzL ⟨j + 1, rfl, rfl, rfl, by omega, fun t ht => by rcases (by omega : t < j ∨ t = j) with h | rfl; exact hf0_1 t h; exact hok⟩ ⟨rfl, rfl, rfl, rfl, rfl, trivial⟩ ⟨(by rw [rowE_next (by omega), ← hx] <;> rfl), trivial⟩ ?_
        omega
    · skip
      refine Qp<|(Qm)<|(QN)<|(Qat)<|(Qm)<|(Qy)<|(Qm)<|(Qy)<|(QN)<|(Qat)<|(QT)<|(Qm)<|(Qo)<|(Qo)<|(Qo)<|(Qo)<|(Qo)<|(QT)<|Qn<|(Qct) ?_
      have hbad : okPre (es ++ (rowE w l).take j) (w, l.getD j 0) = false := by rw [okPre_tok, ← hx, decide_eq_false (by omega)]; rfl
      have hrow := okPR_bad (show j < l.length by omega) hbad
      refine Qs<|Qp<|(Qa)<|Qn<|Qr ?_
      exact ⟨_, _, _, rfl, .tmp rfl, (by first | exact ⟨by rw [hrow], fun h => by rw [hrow] at h; cases h⟩ | (rw [hz0, rowE_all]; exact ⟨by rw [okPR_ok (fun t h => hf0_1 t (by omega))], fun _ => rfl⟩)), 0, rfl⟩
  · intro hc0
    have hc0 := of_decide_eq_false hc0
    have hz0 : j = l.length := by omega
    refine Qe<|Qs<|Qp<|(Qa)<|Qn<|Qr ?_
    exact ⟨_, _, _, rfl, .tmp rfl, (by first | exact ⟨by rw [hrow], fun h => by rw [hrow] at h; cases h⟩ | (rw [hz0, rowE_all]; exact ⟨by rw [okPR_ok (fun t h => hf0_1 t (by omega))], fun _ => rfl⟩)), 0, rfl⟩
end Go.Proofs.YthljakcegoohlaaGreatDoor
namespace Go.Proofs.YthljakcegoohlaaGreatDoor
open Go Go.RowKit
variable {G : Mem}
set_option maxHeartbeats 2000000 in
theorem pmix_fn (r : Nat) (es : List Ev) (w t : Nat) (h3 : 3 ≤ t) (h6 : t ≤ 6) : Fx Tryz.prog G [(⟨r, kst (stE es), 217⟩ : Blk)] 241 #[ptr r, ii t] (fun v l1 nw => nw = [] ∧ ∃ c', l1 = [⟨r, c', 217⟩] ∧ (v = Value.bool (okT es w t) ∧ ((okT es w t) = true → c' = kst (stE (es ++ [(w, t)]))))) := by
  have hl0 := ltr_in t 0
  have hl1 := ltr_in t 1
  have hmb := mixB_stE (es := es) (w := w) h3 h6
  refine fxWS (n := 41) Tryz.func241 rfl rfl (by simp) (argE [ptr r, ii t] 0) (argE_ok _) ?_
  refine Qs<|Qp<|(Qa)<|Qn<|Qs<|Qp<|(Qm) ?_
  refine e_call rfl (Un 265) (letters_fn t) rfl rfl ?_
  refine (QH 1) fun r2=>(Qt 1)<|Qn<|Qs<|Qs<|(Qg) ?_
  refine e_join [(0, _), (1, _), (4, _), (5, _), (6, _), (7, _)] [(35, .bool (mixB (stE es) t))] [(0, some _), (1, some _)] ⟨rfl, rfl, rfl, rfl, rfl, rfl, trivial⟩ ⟨rfl, rfl, trivial⟩ ?_ ?_
  · skip
    refine (Qm)<|(Qm) ?_
    refine e_nilCheck rfl rfl ?_
    refine (Qf 6)<|(QB (6 + t)) ?_
    refine e_load1 (i := 0) (Uu 4) rfl rfl rfl (arrv_get (by omega)) rfl ⟨[], trivial⟩ ?_
    refine e_as (show _ = Value.bool (stE es (6 + t)) from rfl) ?_
    refine (Qm) ?_
    refine e_case (fun hb0 => ?_) (fun hb0 => ?_)
    · skip
      refine (Qo)<|(Qo)<|(Qo)<|(Qo)<|(Qo)<|(Qo)<|(Qo)<|(Qo)<|(Qo)<|(QT)<|(Qm)<|(Qo)<|(Qo)<|(Qo)<|(Qo)<|(Qo)<|(Qo)<|(Qo)<|(Qo)<|(Qo)<|(QT)<|Qn ?_
      exact ⟨⟨rfl, rfl, rfl, rfl, rfl, rfl, trivial⟩, ⟨bool_fin (by rw [mixB, hb0] <;> rfl), trivial⟩, ⟨rfl, rfl, trivial⟩⟩
    · skip
      refine (Qy)<|(Qm)<|(Qy)<|(Qj 0)<|(Qy)<|(Q1 1)<|(Qy) ?_
      refine e_nilCheck rfl rfl ?_
      refine (Qy)<|(Qf 0)<|(Qy)<|(QA 0 0)<|(Qy)<|(Qi)<|(Qy) ?_
      refine e_load1 (i := 0) (Uu 4) rfl rfl rfl (arrv_get (by omega)) rfl ⟨[], trivial⟩ ?_
      refine e_as (show _ = Value.bool (stE es (ltr t 0)) by first | rfl | (rw [Nat.zero_add])) ?_
      refine (Qy)<|(Q0)<|(QF)<|(Qm) ?_
      refine e_case (fun hb1 => ?_) (fun hb1 => ?_)
      · skip
        refine (Qo)<|(Qo)<|(Qo)<|(Qo)<|(Qo)<|(Qo)<|(Qo)<|(Qo)<|(Qo)<|(QT)<|Qn ?_
        exact ⟨⟨rfl, rfl, rfl, rfl, rfl, rfl, trivial⟩, ⟨bool_fin (by rw [mixB, hb0, hb1] <;> rfl), trivial⟩, ⟨rfl, rfl, trivial⟩⟩
      · skip
        refine (Qy)<|(Qm)<|(Qy)<|(Qj 1)<|(Qy)<|(Q1 1)<|(Qy) ?_
        refine e_nilCheck rfl rfl ?_
        refine (Qy)<|(Qf 0)<|(Qy)<|(QA 3 1)<|(Qy)<|(QB (3 + ltr t 1))<|(Qy) ?_
        refine e_load1 (i := 0) (Uu 4) rfl rfl rfl (arrv_get (by omega)) rfl ⟨[], trivial⟩ ?_
        refine e_as (show _ = Value.bool (stE es (3 + ltr t 1)) from rfl) ?_
        refine (Qy)<|(Q0)<|(QF)<|Qn ?_
        exact ⟨⟨rfl, rfl, rfl, rfl, rfl, rfl, trivial⟩, ⟨bool_fin (by rw [mixB, hb0, hb1] <;> rfl), trivial⟩, ⟨rfl, rfl, trivial⟩⟩
  · simp only [catE]
    refine e_cond rfl ?_ ?_
    · intro hc0
      have hno : okT es w t = false := by rw [hc0] at hmb; simpa using hmb
      refine Qs<|Qp<|(Qa)<|Qn<|Qr ?_
      exact ⟨_, _, _, rfl, .tmp rfl, (by first | exact ⟨by rw [hno], fun _ => kst_tok h3 (by omega)⟩ | exact ⟨by rw [hno], fun h => by rw [hno] at h; cases h⟩), 0, rfl⟩
    · intro hc0
      have hno : okT es w t = true := by rw [hc0] at hmb; simpa using hmb
      refine Qk<|Qs<|Qp<|(Qm)<|(Qm) ?_
      refine e_nilCheck rfl rfl ?_
      refine (Qf 6)<|(QB (6 + t)) ?_
      refine e_st1 (i := 0) (Uz 4) rfl rfl rfl rfl (by omega) (.inl rfl) ?_
      refine Qn<|Qs<|Qp<|(Qa)<|Qn<|Qr ?_
      exact ⟨_, _, _, rfl, .tmp rfl, (by first | exact ⟨by rw [hno], fun _ => kst_tok h3 (by omega)⟩ | exact ⟨by rw [hno], fun h => by rw [hno] at h; cases h⟩), 0, rfl⟩
end Go.Proofs.YthljakcegoohlaaGreatDoor
namespace Go.Proofs.YthljakcegoohlaaGreatDoor
open Go Go.RowKit
variable {G : Mem}
set_option maxHeartbeats 2000000 in
theorem say_fn (r : Nat) (es : List Ev) (w x : Nat) (hw : w < 2) (h1 : 1 ≤ x) (h7 : x ≤ 7) : Fx Tryz.prog G [(⟨r, kst (stE es), 217⟩ : Blk)] 211 #[ptr r, ii w, ii x] (fun v l1 nw => nw = [] ∧ ∃ c', l1 = [⟨r, c', 217⟩] ∧ (v = Value.bool (okT es w x) ∧ ((okT es w x) = true → c' = kst (stE (es ++ [(w, x)]))))) := by
  refine fxWS (n := 35) Tryz.func211 rfl rfl (by simp) (argE [ptr r, ii w, ii x] 0) (argE_ok _) ?_
  refine Qs<|Qp<|(Qa)<|Qn<|Qs<|Qs<|Qp<|(Qm)<|Qn<|Qb<|Qs<|Qp<|(Qc)<|(Qa)<|Qn ?_
  refine e_cond rfl ?_ ?_
  · intro hc0
    obtain rfl : x = 1 := by have := of_decide_eq_true hc0; omega
    refine Qs<|QR ⟨[], 5, [], none⟩<|(Qm)<|(Qm)<|(Qm) ?_
    refine e_callWS 0 rfl rfl (Un 210) rfl (fun _ h => by cases h) (tell_fn (G := []) r es w 1 hw (.inl rfl)) ⟨_, _, rfl, fun _ => rfl⟩ rfl rfl fun v2_1 c2_1 hS2_1 => ?_
    obtain ⟨rfl, hq1⟩ := hS2_1
    refine (Qa)<|Qn<|Qr ?_
    exact ⟨_, _, _, rfl, .tmp rfl, (by first | exact ⟨by rw [okT_one]; rfl, fun h => hq1 (by rw [okT_one] at h; exact h)⟩ | exact ⟨by rw [okT_two hw, hml]; rfl, fun h => hq2 (by rw [okT_two hw, hml] at h; exact h)⟩ | exact ⟨by rw [okT_two hw, hml]; rfl, fun h => by rw [okT_two hw, hml] at h; cases h⟩ | exact ⟨rfl, fun _ => kst_tok (by decide) (by decide)⟩ | exact ⟨rfl, hq4⟩), 0, rfl⟩
  · intro hc0
    have hx1 : ¬ x = 1 := by have := of_decide_eq_false hc0; omega
    refine Qs<|Qp<|(Qc)<|(Qa)<|Qn ?_
    refine e_cond rfl ?_ ?_
    · intro hc1
      obtain rfl : x = 2 := by have := of_decide_eq_true hc1; omega
      refine Qs ?_
      cases hml : mlS (stE es) w
      · skip
        refine Qp<|(Qm)<|(Qm) ?_
        refine e_callV [_] rfl rfl (Un 212) ⟨⟨0, rfl⟩, trivial⟩ (dlock_fn (G := []) r (stE es) w hw) rfl rfl rfl ?_
        refine e_as (congrArg Value.bool hml) ?_
        refine (Qm)<|(Qo)<|(Qo)<|(Qo)<|(Qo)<|(QF)<|(Qa)<|Qn<|Qr ?_
        exact ⟨_, _, _, rfl, .tmp rfl, (by first | exact ⟨by rw [okT_one]; rfl, fun h => hq1 (by rw [okT_one] at h; exact h)⟩ | exact ⟨by rw [okT_two hw, hml]; rfl, fun h => hq2 (by rw [okT_two hw, hml] at h; exact h)⟩ | exact ⟨by rw [okT_two hw, hml]; rfl, fun h => by rw [okT_two hw, hml] at h; cases h⟩ | exact ⟨rfl, fun _ => kst_tok (by decide) (by decide)⟩ | exact ⟨rfl, hq4⟩), 0, rfl⟩
      · skip
        refine QR ⟨[], 5, [], none⟩<|(Qm)<|(Qm) ?_
        refine e_callV [_] rfl rfl (Un 212) ⟨⟨0, rfl⟩, trivial⟩ (dlock_fn (G := []) r (stE es) w hw) rfl rfl rfl ?_
        refine e_as (congrArg Value.bool hml) ?_
        refine (Qm)<|(Qy)<|(Qm)<|(Qy)<|(Qm)<|(Qy)<|(Qm)<|(Qy) ?_
        refine e_callWS 0 rfl rfl (Un 210) rfl (fun _ h => by cases h) (tell_fn (G := []) r es w 2 hw (.inr rfl)) ⟨_, _, rfl, fun _ => rfl⟩ rfl rfl fun v4_1 c4_1 hS4_1 => ?_
        obtain ⟨rfl, hq2⟩ := hS4_1
        refine (QT)<|(Qa)<|Qn<|Qr ?_
        exact ⟨_, _, _, rfl, .tmp rfl, (by first | exact ⟨by rw [okT_one]; rfl, fun h => hq1 (by rw [okT_one] at h; exact h)⟩ | exact ⟨by rw [okT_two hw, hml]; rfl, fun h => hq2 (by rw [okT_two hw, hml] at h; exact h)⟩ | exact ⟨by rw [okT_two hw, hml]; rfl, fun h => by rw [okT_two hw, hml] at h; cases h⟩ | exact ⟨rfl, fun _ => kst_tok (by decide) (by decide)⟩ | exact ⟨rfl, hq4⟩), 0, rfl⟩
    · intro hc1
      have hx2 : ¬ x = 2 := by have := of_decide_eq_false hc1; omega
      refine Qs<|Qp<|(Qc)<|(Qa)<|Qn ?_
      refine e_cond rfl ?_ ?_
      · intro hc2
        obtain rfl : x = 7 := by have := of_decide_eq_true hc2; omega
        refine Qs<|Qp<|(Qm)<|(Qm) ?_
        refine e_nilCheck rfl rfl ?_
        refine (Qf 6) ?_
        refine e_at (6 + 7) (Uu 215) (Uz 4) rfl rfl (by decide) (by omega) rfl ?_
        refine e_st1 (i := 0) (Uz 4) rfl rfl rfl rfl (by omega) (.inl rfl) ?_
        refine Qn<|Qs<|Qp<|(Qa)<|Qn<|Qr ?_
        exact ⟨_, _, _, rfl, .tmp rfl, (by first | exact ⟨by rw [okT_one]; rfl, fun h => hq1 (by rw [okT_one] at h; exact h)⟩ | exact ⟨by rw [okT_two hw, hml]; rfl, fun h => hq2 (by rw [okT_two hw, hml] at h; exact h)⟩ | exact ⟨by rw [okT_two hw, hml]; rfl, fun h => by rw [okT_two hw, hml] at h; cases h⟩ | exact ⟨rfl, fun _ => kst_tok (by decide) (by decide)⟩ | exact ⟨rfl, hq4⟩), 0, rfl⟩
      · intro hc2
        have hx7 : ¬ x = 7 := by have := of_decide_eq_false hc2; omega
        refine Qk<|Qs<|QR ⟨[], 5, [], none⟩<|(Qm)<|(Qm) ?_
        refine e_callWS 0 rfl rfl (Un 241) rfl (fun _ h => by cases h) (pmix_fn (G := []) r es w x (by omega) (by omega)) ⟨_, _, rfl, fun _ => rfl⟩ rfl rfl fun v4_1 c4_1 hS4_1 => ?_
        obtain ⟨rfl, hq4⟩ := hS4_1
        refine (Qa)<|Qn<|Qr ?_
        exact ⟨_, _, _, rfl, .tmp rfl, (by first | exact ⟨by rw [okT_one]; rfl, fun h => hq1 (by rw [okT_one] at h; exact h)⟩ | exact ⟨by rw [okT_two hw, hml]; rfl, fun h => hq2 (by rw [okT_two hw, hml] at h; exact h)⟩ | exact ⟨by rw [okT_two hw, hml]; rfl, fun h => by rw [okT_two hw, hml] at h; cases h⟩ | exact ⟨rfl, fun _ => kst_tok (by decide) (by decide)⟩ | exact ⟨rfl, hq4⟩), 0, rfl⟩
end Go.Proofs.YthljakcegoohlaaGreatDoor
namespace Go.Proofs.YthljakcegoohlaaGreatDoor
open Go Go.RowKit
variable {G : Mem}
set_option maxHeartbeats 4000000 in
theorem turn_fn (r : Nat) (es : List Ev) (w : Nat) (hw : w < 2) (v : Value) (l : List Nat) (hv : Shows G 1 v l.length ((ci l).map iv)) (ht : ∀ x ∈ l, 1 ≤ x ∧ x ≤ 7) (hz : l.length ≤ 1000) : Fx Tryz.prog G [(⟨r, kst (stE es), 217⟩ : Blk)] 163 #[ptr r, ii w, v] (fun u l1 nw => nw = [] ∧ ∃ c', l1 = [⟨r, c', 217⟩] ∧ (u = Value.bool (okTR es w l) ∧ ((okTR es w l) = true → c' = kst (stE (es ++ rowE w (l ++ [0])))))) := by
  refine fxWS (n := 24) Tryz.func163 rfl rfl (by simp) (argE [ptr r, ii w, v] 0) (argE_ok _) ?_
  refine Qs<|Qp<|(Qa)<|Qn<|Qs<|Qs<|Qp<|(Qm)<|(QC hv)<|(Qm)<|Qn<|Qb ?_
  refine QzK [(0, _), (1, _), (9, _), (10, _)] [] (fun kk E m => ∃ (j : Nat), kk = l.length - j ∧ E = [(11, ii j)] ∧ m = [(0, some ⟨r, kst (stE (es ++ (rowE w l).take j)), 217⟩)] ∧ (j ≤ l.length) ∧ (∀ t, t < j → okT (es ++ (rowE w l).take t) w (l.getD t 0) = true)) ⟨0, rfl, rfl, rfl, by omega, fun t ht => absurd ht (Nat.not_lt_zero t)⟩ ⟨rfl, rfl, rfl, rfl, rfl, trivial⟩ ⟨(by rw [rowE_zero] <;> rfl), trivial⟩ ?_
  rintro kk E m ⟨j, rfl, rfl, rfl, hf0_0, hf0_1⟩
  simp only [catE, catL]
  refine Qs<|Qp<|(Ql)<|Qn<|Qs ?_
  refine e_cond rfl ?_ ?_
  · intro hc0
    have hc0 : j < l.length := by have := of_decide_eq_true hc0; omega
    refine Qk<|Qs<|Qb<|Qs<|Qp ?_
    refine e_atV hv (Uu 25) (Uz 3) rfl rfl (by omega) rfl ?_
    refine (QS) ?_
    refine e_loadV hv seenG (Uu 3) rfl rfl (ci_at (by omega)) rfl ?_
    refine e_gen_i fun x hx => ?_
    refine (Qa)<|Qn ?_
    have hx9 := ht (l.getD j 0) (by rw [List.getD_eq_getElem?_getD, List.getElem?_eq_getElem (by omega)]; exact List.getElem_mem _)
    rw [← hx] at hx9
    refine Qs<|QR ⟨[], 5, [], none⟩<|(Qm)<|(Qm)<|(Qm) ?_
    refine e_callWS 0 rfl rfl (Un 211) rfl (fun _ h => by cases h) (say_fn (G := []) r (es ++ (rowE w l).take j) w x hw hx9.1 hx9.2) ⟨_, _, rfl, fun _ => rfl⟩ rfl rfl fun v2_1 c2_1 hS2_1 => ?_
    obtain ⟨rfl, hq1⟩ := hS2_1
    refine (Q0)<|Qn ?_
    refine e_cond rfl ?_ ?_
    · intro hc1
      have hrow : okTR es w l = false := okTR_bad (show j < l.length by omega) (by rw [← hx]; simpa using hc1)
      refine Qs<|Qp<|(Qa)<|Qn<|Qr ?_
      exact ⟨_, _, _, rfl, .tmp rfl, (by first | exact ⟨by rw [hrow], fun h => by rw [hrow] at h; cases h⟩ | (rw [hz0, rowE_all, okTR_fin (fun t h => hf0_1 t (by omega)), okT_zero hw]; exact ⟨rfl, fun _ => kst_rowZ⟩)), 0, rfl⟩
    · intro hc1
      have hok0 : okT (es ++ (rowE w l).take j) w x = true := by simpa using hc1
      have hok : okT (es ++ (rowE w l).take j) w (l.getD j 0) = true := by rw [← hx]; exact hok0
      obtain rfl := hq1 hok0
      refine Qk<|Qp<|(Q2 1)<|(Qm)<|Qn ?_
      refine QzL ⟨j + 1, rfl, rfl, rfl, by omega, fun t ht => by rcases (by omega : t < j ∨ t = j) with h | rfl; exact hf0_1 t h; exact hok⟩ ⟨rfl, rfl, rfl, rfl, rfl, trivial⟩ ⟨(by rw [rowE_next (by omega), ← hx] <;> rfl), trivial⟩ ?_
      omega
  · intro hc0
    have hc0 := of_decide_eq_false hc0
    have hz0 : j = l.length := by omega
    refine Qe<|Qs<|Qp<|(Qm)<|(Qm) ?_
    refine e_callV [_] rfl rfl (Un 212) ⟨⟨0, rfl⟩, trivial⟩ (dlock_fn (G := []) r _ w hw) rfl rfl rfl ?_
    refine (Qa)<|Qn<|Qr ?_
    exact ⟨_, _, _, rfl, .tmp rfl, (by first | exact ⟨by rw [hrow], fun h => by rw [hrow] at h; cases h⟩ | (rw [hz0, rowE_all, okTR_fin (fun t h => hf0_1 t (by omega)), okT_zero hw]; exact ⟨rfl, fun _ => kst_rowZ⟩)), 0, rfl⟩
end Go.Proofs.YthljakcegoohlaaGreatDoor
namespace Go.Proofs.YthljakcegoohlaaGreatDoor
open Go Go.RowKit
variable {G : Mem}
set_option maxHeartbeats 8000000 in
theorem inform_fn (base : List Nat) (late : Bool) (vp v0 v1 vt : Value) (tvs : List Value) (q0 q1 : List Nat) (us : List (List Nat)) (hvt : Shows G 1 vt tvs.length tvs) (hLI : ShowsLI G (v0 :: v1 :: tvs) (ci q0 :: ci q1 :: us.map ci)) (htk : ∀ q ∈ q0 :: q1 :: us, q.length ≤ 6 ∧ ∀ x ∈ q, 1 ≤ x ∧ x ≤ 7) (hn5 : us.length ≤ 5) : Fn Tryz.prog G 114 #[.agg (cells 6 [pV (sv base), pV (.bool late), pV vp, pV v0, pV v1, pV vt])] (.bool (decide (fin3 (evL late q0 q1 us) = 0))) := by
  have hT := li_tail (li_tail hLI)
  have hv0 := li_head hLI
  have hv1 := li_head (li_tail hLI)
  have hvq := pre_shows hv0 hv1
  have htl : tvs.length = us.length := by have := hT.1; rwa [List.length_map] at this
  obtain ⟨L, hL⟩ : ∃ L, L = evL late q0 q1 us := ⟨_, rfl⟩
  have hLl : L.length = 2 + us.length := by rw [hL]; exact evL_len
  have hLa : ∀ a, a < 2 → L.getD a [] = rowE a (qq q0 q1 a) := fun a ha => by rw [hL]; exact evL_pre ha
  have hLt : ∀ i, i < us.length → L.getD (2 + i) [] = rowE (whoT late i) (us.getD i [] ++ [0]) := fun i hi => by rw [hL]; exact evL_turn hi
  rw [← hL]
  have hqt : ∀ a, (qq q0 q1 a).length ≤ 6 ∧ ∀ x ∈ qq q0 q1 a, 1 ≤ x ∧ x ≤ 7 := fun a => by unfold qq; split; exact htk q0 (by simp); exact htk q1 (by simp)
  have hut : ∀ i, i < us.length → (us.getD i []).length ≤ 6 ∧ ∀ x ∈ us.getD i [], 1 ≤ x ∧ x ≤ 7 := fun i hi => htk _ (by rw [List.getD_eq_getElem?_getD, List.getElem?_eq_getElem hi]; simp)
  refine Qf1 Tryz.func114 ?_
  refine Qs<|Qp<|(Qh 0) fun r1=>(Qa)<|Qn<|Qs<|Qp<|(QH 1) fun r2=>Qn<|Qs<|Qs<|Qp<|(Qf 3) ?_
  refine e_ldP (i := 0) (Uu 26) rfl (Uz 26) rfl rfl (by decide) rfl ⟨[], trivial⟩ ?_
  refine e_as (show _ = Value.agg (arrv 2 (fun t => vq v0 v1 t)) from congrArg Value.agg (arrv_congr fun j hj => by have h9 : j = 0 ∨ j = 1 := (by omega); rcases h9 with rfl | rfl <;> rfl)) ?_
  refine (Qm)<|Qn<|Qb ?_
  refine QzK [(1, _), (3, _), (10, _)] [(0, _)] (fun kk E m => ∃ (a : Nat), kk = 2 - a ∧ E = [(11, ii a)] ∧ m = [(1, some ⟨r2, kst (stE (uptoE L a 0)), 217⟩)] ∧ (a ≤ 2) ∧ (∀ s t, s < a → t < (L.getD s []).length → okAt L s t = true)) ⟨0, rfl, rfl, rfl, by omega, fun _ _ h => absurd h (Nat.not_lt_zero _)⟩ ⟨rfl, rfl, rfl, rfl, trivial⟩ ⟨(by rw [uptoE_zero, show (kst (stE []) : Array Value) = _ from arrv_congr fun j _ => by rw [stE_nil]] <;> rfl), rfl, trivial⟩ ?_
  rintro kk E m ⟨a, rfl, rfl, rfl, hf0_0, hf0_1⟩
  simp only [catE, catL]
  refine Qs<|Qp<|(Ql)<|Qn<|Qs ?_
  refine e_cond rfl ?_ ?_
  · intro hc0
    have hc0 : a < 2 := by have := of_decide_eq_true hc0; omega
    refine Qk<|Qs<|Qb<|Qs<|Qp<|(Qm) ?_
    refine e_idxP (Uu 26) (Uu 25) rfl (Uz 25) rfl rfl (by omega) rfl ?_
    refine (Qa)<|(Qa)<|Qn<|Qs<|QR ⟨[], 5, [], none⟩<|(Qm)<|(Qm) ?_
    refine e_callWS 1 rfl rfl (Un 162) rfl (fun z hz => .inl hz) (ahead_fn (G := G) r2 (uptoE L a 0) a (by omega) (vq v0 v1 a) (qq q0 q1 a) (hvq a (by omega)) (hqt a).2 (by have := (hqt a).1; omega)) ⟨_, _, rfl, fun _ => rfl⟩ rfl rfl fun v2_1 c2_1 hS2_1 => ?_
    obtain ⟨rfl, hq1⟩ := hS2_1
    refine (Q0)<|Qn ?_
    refine e_cond rfl ?_ ?_
    · intro hc1
      have hbad : okPR (uptoE L a 0) a (qq q0 q1 a) = false := by simpa using hc1
      rw [pre_bad (by omega) (by omega) (hLa a (by omega)) hbad]
      refine Qs<|Qp<|(Qa)<|Qn<|Qr ?_
      first | rw [fin3_ok (fun s t hs ht => by by_cases h2 : s < 2; exact hf0_1 s t (by omega) ht; (obtain ⟨s, rfl⟩ : ∃ r, s = 2 + r := ⟨s - 2, by omega⟩); exact hf1_1 s t (by omega) ht)] | skip
      exact ⟨_, rfl, .tmp rfl⟩
    · intro hc1
      have hok : okPR (uptoE L a 0) a (qq q0 q1 a) = true := by simpa using hc1
      obtain rfl := hq1 hok
      refine Qk<|Qp<|(Q2 1)<|(Qm)<|Qn ?_
      refine QzL ⟨a + 1, rfl, rfl, rfl, by omega, fun s t hs ht => by by_cases e : s = a; (subst e; exact pre_ok (by omega) (hLa s (by omega)) hok t ht); exact hf0_1 s t (by omega) ht⟩ ⟨rfl, rfl, rfl, rfl, trivial⟩ ⟨(by rw [← row_next (by omega), hLa a (by omega)] <;> rfl), rfl, trivial⟩ ?_
      omega
  · intro hc0
    have hc0 := of_decide_eq_false hc0
    have hz0 : a = 2 := by omega
    refine Qe<|Qs<|Qp<|(Qa)<|Qn<|Qs<|Qs<|Qp<|(Qf 1)<|(QV 1 0)<|Qn ?_
    refine s_join [(1, _), (3, _), (10, _), (11, _), (12, _), (20, _), (21, _)] [(6, ii (whoT late 0))] [(0, some _), (1, some ⟨r2, kst (stE (uptoE L a 0)), 217⟩)] ⟨rfl, rfl, rfl, rfl, rfl, rfl, rfl, trivial⟩ ⟨rfl, rfl, trivial⟩ ?_ ?_
    · skip
      refine e_cond rfl ?_ ?_
      · intro hc2
        have hcL := hc2
        refine Qp<|(Qa)<|Qn ?_
        exact ⟨⟨rfl, rfl, rfl, rfl, rfl, rfl, rfl, trivial⟩, ⟨(by rw [whoT, hcL] <;> rfl), trivial⟩, ⟨rfl, rfl, trivial⟩⟩
      · intro hc2
        have hcL := hc2
        refine Qk ?_
        exact ⟨⟨rfl, rfl, rfl, rfl, rfl, rfl, rfl, trivial⟩, ⟨(by rw [whoT, hcL] <;> rfl), trivial⟩, ⟨rfl, rfl, trivial⟩⟩
    · simp only [catE]
      refine Qs<|Qs<|Qp<|(Qf 5)<|(QV 5 0)<|(QC hvt)<|(Qm)<|Qn<|Qb ?_
      refine QzK [(1, _), (3, _), (10, _), (11, _), (23, _), (24, _)] [(0, _)] (fun kk E m => ∃ (i : Nat), kk = tvs.length - i ∧ E = [(6, ii (whoT late i)), (25, ii i)] ∧ m = [(1, some ⟨r2, kst (stE (uptoE L (2 + i) 0)), 217⟩)] ∧ (i ≤ tvs.length) ∧ (∀ s t, s < i → t < (L.getD (2 + s) []).length → okAt L (2 + s) t = true)) ⟨0, rfl, rfl, rfl, by omega, fun _ _ h => absurd h (Nat.not_lt_zero _)⟩ ⟨rfl, rfl, rfl, rfl, rfl, rfl, rfl, rfl, trivial⟩ ⟨(by rw [hz0] <;> rfl), rfl, trivial⟩ ?_
      rintro kk E m ⟨i, rfl, rfl, rfl, hf1_0, hf1_1⟩
      simp only [catE, catL]
      have hwl := whoT_lt late i
      refine Qs<|Qp<|(Ql)<|Qn<|Qs ?_
      refine e_cond rfl ?_ ?_
      · intro hc3
        have hc3 : i < tvs.length := by have := of_decide_eq_true hc3; omega
        refine Qk<|Qs<|Qb<|Qs<|Qp ?_
        refine e_atV hvt (Uu 27) (Uz 25) rfl rfl (by omega) rfl ?_
        refine (QS) ?_
        refine e_loadV hvt seenG (Uu 25) rfl rfl (get_getD (by omega)) rfl ?_
        refine (Qa)<|Qn<|Qs<|Qs<|QR ⟨[], 5, [], none⟩<|(Qm)<|(Qm) ?_
        refine e_callWS 1 rfl rfl (Un 163) rfl (fun z hz => .inl hz) (turn_fn (G := G) r2 (uptoE L (2 + i) 0) (whoT late i) hwl (tvs.getD i undef) (us.getD i []) (li_at hT (by omega)) (hut i (by omega)).2 (by have := (hut i (by omega)).1; omega)) ⟨_, _, rfl, fun _ => rfl⟩ rfl rfl fun v4_1 c4_1 hS4_1 => ?_
        obtain ⟨rfl, hq2⟩ := hS4_1
        refine (Q0)<|Qn ?_
        refine e_cond rfl ?_ ?_
        · intro hc4
          have hbad : okTR (uptoE L (2 + i) 0) (whoT late i) (us.getD i []) = false := by simpa using hc4
          rw [turn_bad (by omega) (hLt i (by omega)) hbad]
          refine Qs<|Qp<|(Qa)<|Qn<|Qr ?_
          first | rw [fin3_ok (fun s t hs ht => by by_cases h2 : s < 2; exact hf0_1 s t (by omega) ht; (obtain ⟨s, rfl⟩ : ∃ r, s = 2 + r := ⟨s - 2, by omega⟩); exact hf1_1 s t (by omega) ht)] | skip
          exact ⟨_, rfl, .tmp rfl⟩
        · intro hc4
          have hok : okTR (uptoE L (2 + i) 0) (whoT late i) (us.getD i []) = true := by simpa using hc4
          obtain rfl := hq2 hok
          refine Qk<|Qp<|(Qm) ?_
          refine e_sub_in (p := 1) rfl rfl rfl (by omega) (by omega) ?_
          refine (Qa)<|Qn<|Qp<|(Q2 1)<|(Qm)<|Qn ?_
          refine QzL ⟨i + 1, rfl, rfl, rfl, by omega, fun s t hs ht => by by_cases e : s = i; (subst e; exact turn_ok (hLt s (by omega)) hok t ht); exact hf1_1 s t (by omega) ht⟩ ⟨(by rw [← whoT_next] <;> rfl), rfl, rfl, rfl, rfl, rfl, rfl, rfl, trivial⟩ ⟨(by rw [show 2 + (i + 1) = 2 + i + 1 by omega, ← row_next (by omega), hLt i (by omega)] <;> rfl), rfl, trivial⟩ ?_
          omega
      · intro hc3
        have hc3 := of_decide_eq_false hc3
        have hz1 : i = tvs.length := by omega
        refine Qe<|Qs<|Qp<|(Qa)<|Qn<|Qr ?_
        first | rw [fin3_ok (fun s t hs ht => by by_cases h2 : s < 2; exact hf0_1 s t (by omega) ht; (obtain ⟨s, rfl⟩ : ∃ r, s = 2 + r := ⟨s - 2, by omega⟩); exact hf1_1 s t (by omega) ht)] | skip
        exact ⟨_, rfl, .tmp rfl⟩
end Go.Proofs.YthljakcegoohlaaGreatDoor
namespace Go.Proofs.YthljakcegoohlaaGreatDoor
open Go Go.RowKit
variable {G : Mem}
set_option maxHeartbeats 400000 in
theorem chk_size (base : List Nat) (late : Bool) (vp v0 v1 vt : Value) (tvs : List Value) (p0 p1 : List Int) (ts : List (List Int)) (hvt : Shows G 1 vt tvs.length tvs) (hLI : ShowsLI G (v0 :: v1 :: tvs) (p0 :: p1 :: ts)) (h : ts.length = 0 ∨ 5 < ts.length) : Fn Tryz.prog G 67 #[.agg (cells 6 [pV (sv base), pV (.bool late), pV vp, pV v0, pV v1, pV vt])] (ii 1) := by
  have hT := li_tail (li_tail hLI)
  have htl : tvs.length = ts.length := hT.1
  refine Qf1 Tryz.func67 ?_
  refine Qs<|Qp<|(Qh 0) fun r1=>(Qa)<|Qn<|Qs<|Qs<|Qp ?_
  refine e_join [(0, _), (1, _), (2, _)] [(14, .bool (decide ((tvs.length : Int) < 1) || decide ((5 : Int) < (tvs.length : Int))))] [(0, some _)] ⟨rfl, rfl, rfl, trivial⟩ ⟨rfl, trivial⟩ ?_ ?_
  · skip
    refine (Qf 5)<|(QV 5 0)<|(QC hvt)<|(Ql)<|(Qm) ?_
    refine e_case (fun hb0 => ?_) (fun hb0 => ?_)
    · skip
      refine (Qo)<|(Qo)<|(Qo)<|(Qo)<|(QT)<|Qn ?_
      exact ⟨⟨rfl, rfl, rfl, trivial⟩, ⟨bool_fin (by rw [hb0] <;> rfl), trivial⟩, ⟨rfl, trivial⟩⟩
    · skip
      refine (Qy)<|(Qf 5)<|(Qy)<|(QV 5 0)<|(Qy)<|(QC hvt)<|(Qy)<|(QG)<|(QF)<|Qn ?_
      exact ⟨⟨rfl, rfl, rfl, trivial⟩, ⟨bool_fin (by rw [hb0] <;> rfl), trivial⟩, ⟨rfl, trivial⟩⟩
  · simp only [catE]
    refine e_cond rfl ?_ ?_
    · intro hc0
      refine Qs<|Qp<|(Qa)<|Qn<|Qr ?_
      exact ⟨_, rfl, .tmp rfl⟩
    · intro hc0
      exact absurd hc0 (by rcases h with h | h; (rw [decide_eq_true (by omega)]; simp); (rw [decide_eq_true (p := (5 : Int) < _) (by omega)]; simp))
set_option maxHeartbeats 2000000 in
theorem chk_pre (base : List Nat) (late : Bool) (vp v0 v1 vt : Value) (tvs : List Value) (p0 p1 : List Int) (ts : List (List Int)) (hvt : Shows G 1 vt tvs.length tvs) (hLI : ShowsLI G (v0 :: v1 :: tvs) (p0 :: p1 :: ts)) (h1 : 1 ≤ ts.length) (h5 : ts.length ≤ 5) (f : Nat) (hf : first1 [p0, p1] = f) (hf0 : f ≠ 0) : Fn Tryz.prog G 67 #[.agg (cells 6 [pV (sv base), pV (.bool late), pV vp, pV v0, pV v1, pV vt])] (ii f) := by
  have hT := li_tail (li_tail hLI)
  have htl : tvs.length = ts.length := hT.1
  refine Qf1 Tryz.func67 ?_
  refine Qs<|Qp<|(Qh 0) fun r1=>(Qa)<|Qn<|Qs<|Qs<|Qp ?_
  refine e_join [(0, _), (1, _), (2, _)] [(14, .bool (decide ((tvs.length : Int) < 1) || decide ((5 : Int) < (tvs.length : Int))))] [(0, some _)] ⟨rfl, rfl, rfl, trivial⟩ ⟨rfl, trivial⟩ ?_ ?_
  · skip
    refine (Qf 5)<|(QV 5 0)<|(QC hvt)<|(Ql)<|(Qm) ?_
    refine e_case (fun hb0 => ?_) (fun hb0 => ?_)
    · skip
      refine (Qo)<|(Qo)<|(Qo)<|(Qo)<|(QT)<|Qn ?_
      exact ⟨⟨rfl, rfl, rfl, trivial⟩, ⟨bool_fin (by rw [hb0] <;> rfl), trivial⟩, ⟨rfl, trivial⟩⟩
    · skip
      refine (Qy)<|(Qf 5)<|(Qy)<|(QV 5 0)<|(Qy)<|(QC hvt)<|(Qy)<|(QG)<|(QF)<|Qn ?_
      exact ⟨⟨rfl, rfl, rfl, trivial⟩, ⟨bool_fin (by rw [hb0] <;> rfl), trivial⟩, ⟨rfl, trivial⟩⟩
  · simp only [catE]
    refine e_cond rfl ?_ ?_
    · intro hc0
      exact absurd hc0 (by rw [decide_eq_false (by omega), decide_eq_false (by omega)]; decide)
    · intro hc0
      refine Qk<|Qs<|Qs<|Qp<|(Qf 3) ?_
      refine e_sliceA 0 2 (Uu 26) (Uz 25) rfl rfl rfl rfl rfl (by omega) (by omega) (by omega) rfl ?_
      refine e_callS rfl rfl (Un 113) (seen_app (seen1 0 rfl ⟨[], trivial⟩) seenG) (chkl_fn (G := [(⟨r1, (cells 6 [pV (sv base), pV (.bool late), pV vp, pV v0, pV v1, pV vt]), 29⟩ : Blk)] ++ G) _ [v0, v1] [p0, p1] ((pre_two (r := r1) (t := 29)).mono (fun x hx => List.mem_append_left _ hx)) (li_mono (li_two hLI) (fun x hx => List.mem_append_right _ hx)) (by simp)) rfl rfl ?_
      refine e_as (congrArg ii hf) ?_
      refine (Qa)<|Qn<|Qs<|Qp<|(Qm)<|(QN)<|(Qat)<|Qn<|(Qct)<|Qs<|Qp<|(Qm)<|(Qa)<|Qn<|Qr ?_
      exact ⟨_, rfl, .tmp rfl⟩
set_option maxHeartbeats 2000000 in
theorem chk_turns (base : List Nat) (late : Bool) (vp v0 v1 vt : Value) (tvs : List Value) (p0 p1 : List Int) (ts : List (List Int)) (hvt : Shows G 1 vt tvs.length tvs) (hLI : ShowsLI G (v0 :: v1 :: tvs) (p0 :: p1 :: ts)) (h1 : 1 ≤ ts.length) (h5 : ts.length ≤ 5) (hp : first1 [p0, p1] = 0) (f : Nat) (hf : first1 ts = f) (hf0 : f ≠ 0) : Fn Tryz.prog G 67 #[.agg (cells 6 [pV (sv base), pV (.bool late), pV vp, pV v0, pV v1, pV vt])] (ii f) := by
  have hT := li_tail (li_tail hLI)
  have htl : tvs.length = ts.length := hT.1
  refine Qf1 Tryz.func67 ?_
  refine Qs<|Qp<|(Qh 0) fun r1=>(Qa)<|Qn<|Qs<|Qs<|Qp ?_
  refine e_join [(0, _), (1, _), (2, _)] [(14, .bool (decide ((tvs.length : Int) < 1) || decide ((5 : Int) < (tvs.length : Int))))] [(0, some _)] ⟨rfl, rfl, rfl, trivial⟩ ⟨rfl, trivial⟩ ?_ ?_
  · skip
    refine (Qf 5)<|(QV 5 0)<|(QC hvt)<|(Ql)<|(Qm) ?_
    refine e_case (fun hb0 => ?_) (fun hb0 => ?_)
    · skip
      refine (Qo)<|(Qo)<|(Qo)<|(Qo)<|(QT)<|Qn ?_
      exact ⟨⟨rfl, rfl, rfl, trivial⟩, ⟨bool_fin (by rw [hb0] <;> rfl), trivial⟩, ⟨rfl, trivial⟩⟩
    · skip
      refine (Qy)<|(Qf 5)<|(Qy)<|(QV 5 0)<|(Qy)<|(QC hvt)<|(Qy)<|(QG)<|(QF)<|Qn ?_
      exact ⟨⟨rfl, rfl, rfl, trivial⟩, ⟨bool_fin (by rw [hb0] <;> rfl), trivial⟩, ⟨rfl, trivial⟩⟩
  · simp only [catE]
    refine e_cond rfl ?_ ?_
    · intro hc0
      exact absurd hc0 (by rw [decide_eq_false (by omega), decide_eq_false (by omega)]; decide)
    · intro hc0
      refine Qk<|Qs<|Qs<|Qp<|(Qf 3) ?_
      refine e_sliceA 0 2 (Uu 26) (Uz 25) rfl rfl rfl rfl rfl (by omega) (by omega) (by omega) rfl ?_
      refine e_callS rfl rfl (Un 113) (seen_app (seen1 0 rfl ⟨[], trivial⟩) seenG) (chkl_fn (G := [(⟨r1, (cells 6 [pV (sv base), pV (.bool late), pV vp, pV v0, pV v1, pV vt]), 29⟩ : Blk)] ++ G) _ [v0, v1] [p0, p1] ((pre_two (r := r1) (t := 29)).mono (fun x hx => List.mem_append_left _ hx)) (li_mono (li_two hLI) (fun x hx => List.mem_append_right _ hx)) (by simp)) rfl rfl ?_
      refine e_as (congrArg ii hp) ?_
      refine (Qa)<|Qn<|Qs<|Qp<|(Qm)<|(QN) ?_
      refine e_as (congrArg Value.bool (decide_eq_false (by decide))) ?_
      refine Qn<|(Qcf)<|Qk<|Qs<|Qs<|Qp<|(Qf 5)<|(QV 5 0) ?_
      refine e_call rfl (Un 113) (chkl_fn vt tvs ts hvt hT (by omega)) rfl rfl ?_
      refine e_as (congrArg ii hf) ?_
      refine (Qa)<|Qn<|Qs<|Qp<|(Qm)<|(QN)<|(Qat)<|Qn<|(Qct)<|Qs<|Qp<|(Qm)<|(Qa)<|Qn<|Qr ?_
      exact ⟨_, rfl, .tmp rfl⟩
set_option maxHeartbeats 2000000 in
theorem chk_form (base : List Nat) (late : Bool) (vp v0 v1 vt : Value) (tvs : List Value) (p0 p1 : List Int) (ts : List (List Int)) (hvt : Shows G 1 vt tvs.length tvs) (hLI : ShowsLI G (v0 :: v1 :: tvs) (p0 :: p1 :: ts)) (h1 : 1 ≤ ts.length) (h5 : ts.length ≤ 5) (hp : first1 [p0, p1] = 0) (hf : first1 ts = 0) (f : Nat) (hf3 : f = 0 ∨ f = 3) (hF : Fn Tryz.prog G 114 #[.agg (cells 6 [pV (sv base), pV (.bool late), pV vp, pV v0, pV v1, pV vt])] (.bool (decide (f = 0)))) : Fn Tryz.prog G 67 #[.agg (cells 6 [pV (sv base), pV (.bool late), pV vp, pV v0, pV v1, pV vt])] (ii f) := by
  have hT := li_tail (li_tail hLI)
  have htl : tvs.length = ts.length := hT.1
  refine Qf1 Tryz.func67 ?_
  refine Qs<|Qp<|(Qh 0) fun r1=>(Qa)<|Qn<|Qs<|Qs<|Qp ?_
  refine e_join [(0, _), (1, _), (2, _)] [(14, .bool (decide ((tvs.length : Int) < 1) || decide ((5 : Int) < (tvs.length : Int))))] [(0, some _)] ⟨rfl, rfl, rfl, trivial⟩ ⟨rfl, trivial⟩ ?_ ?_
  · skip
    refine (Qf 5)<|(QV 5 0)<|(QC hvt)<|(Ql)<|(Qm) ?_
    refine e_case (fun hb0 => ?_) (fun hb0 => ?_)
    · skip
      refine (Qo)<|(Qo)<|(Qo)<|(Qo)<|(QT)<|Qn ?_
      exact ⟨⟨rfl, rfl, rfl, trivial⟩, ⟨bool_fin (by rw [hb0] <;> rfl), trivial⟩, ⟨rfl, trivial⟩⟩
    · skip
      refine (Qy)<|(Qf 5)<|(Qy)<|(QV 5 0)<|(Qy)<|(QC hvt)<|(Qy)<|(QG)<|(QF)<|Qn ?_
      exact ⟨⟨rfl, rfl, rfl, trivial⟩, ⟨bool_fin (by rw [hb0] <;> rfl), trivial⟩, ⟨rfl, trivial⟩⟩
  · simp only [catE]
    refine e_cond rfl ?_ ?_
    · intro hc0
      exact absurd hc0 (by rw [decide_eq_false (by omega), decide_eq_false (by omega)]; decide)
    · intro hc0
      refine Qk<|Qs<|Qs<|Qp<|(Qf 3) ?_
      refine e_sliceA 0 2 (Uu 26) (Uz 25) rfl rfl rfl rfl rfl (by omega) (by omega) (by omega) rfl ?_
      refine e_callS rfl rfl (Un 113) (seen_app (seen1 0 rfl ⟨[], trivial⟩) seenG) (chkl_fn (G := [(⟨r1, (cells 6 [pV (sv base), pV (.bool late), pV vp, pV v0, pV v1, pV vt]), 29⟩ : Blk)] ++ G) _ [v0, v1] [p0, p1] ((pre_two (r := r1) (t := 29)).mono (fun x hx => List.mem_append_left _ hx)) (li_mono (li_two hLI) (fun x hx => List.mem_append_right _ hx)) (by simp)) rfl rfl ?_
      refine e_as (congrArg ii hp) ?_
      refine (Qa)<|Qn<|Qs<|Qp<|(Qm)<|(QN) ?_
      refine e_as (congrArg Value.bool (decide_eq_false (by decide))) ?_
      refine Qn<|(Qcf)<|Qk<|Qs<|Qs<|Qp<|(Qf 5)<|(QV 5 0) ?_
      refine e_call rfl (Un 113) (chkl_fn vt tvs ts hvt hT (by omega)) rfl rfl ?_
      refine e_as (congrArg ii hf) ?_
      refine (Qa)<|Qn<|Qs<|Qp<|(Qm)<|(QN) ?_
      refine e_as (congrArg Value.bool (decide_eq_false (by decide))) ?_
      refine Qn<|(Qcf)<|Qk<|Qs<|Qs<|Qp<|(QD 0) ?_
      refine e_call rfl (Un 114) hF rfl rfl ?_
      refine (Q0)<|Qn ?_
      refine e_cond rfl ?_ ?_
      · intro hc3
        obtain rfl : f = 3 := by have : ¬ f = 0 := (by simpa using hc3); omega
        refine Qs<|Qp<|(Qa)<|Qn<|Qr ?_
        exact ⟨_, rfl, .tmp rfl⟩
      · intro hc3
        obtain rfl : f = 0 := by simpa using hc3
        refine Qk<|Qs<|Qp<|(Qa)<|Qn<|Qr ?_
        exact ⟨_, rfl, .tmp rfl⟩
end Go.Proofs.YthljakcegoohlaaGreatDoor
namespace Go.Proofs.YthljakcegoohlaaGreatDoor
open Go Go.RowKit
theorem chk_all {G : Mem} (base : List Nat) (late : Bool) (vp v0 v1 vt : Value) (tvs : List Value) (p0 p1 : List Int) (ts : List (List Int)) (hvt : Shows G 1 vt tvs.length tvs) (hLI : ShowsLI G (v0 :: v1 :: tvs) (p0 :: p1 :: ts)) : Fn Tryz.prog G 67 #[.agg (cells 6 [pV (sv base), pV (.bool late), pV vp, pV v0, pV v1, pV vt])] (ii (pfault late p0 p1 ts)) := by
  by_cases h0 : ts.length = 0 ∨ 5 < ts.length
  · rw [pfault, if_pos h0]; exact chk_size base late vp v0 v1 vt tvs p0 p1 ts hvt hLI h0
  by_cases hp : first1 [p0, p1] = 0
  · by_cases hf : first1 ts = 0
    · have h00 : first1 (p0 :: p1 :: ts) = 0 := by rw [first1_split, if_pos hp, hf]
      have hz := first1_zero h00
      have e0 := wrong_no (hz p0 (by simp)).2
      have e1 := wrong_no (hz p1 (by simp)).2
      have et : ts = (ts.map fun t => t.map Int.toNat).map ci := by
        rw [List.map_map]
        conv => lhs; rw [← List.map_id ts]
        exact List.map_congr_left fun t ht => wrong_no (hz t (by simp [ht])).2
      rw [pfault, if_neg h0, if_pos h00]
      refine chk_form base late vp v0 v1 vt tvs p0 p1 ts hvt hLI (by omega) (by omega) hp hf _ (by unfold fin3; split <;> simp) ?_
      have hall : first1 ((p0.map Int.toNat :: p1.map Int.toNat :: (ts.map fun t => t.map Int.toNat)).map ci) = 0 := by
        rw [List.map_cons, List.map_cons, ← e0, ← e1, ← et]; exact h00
      exact inform_fn base late vp v0 v1 vt tvs (p0.map Int.toNat) (p1.map Int.toNat) (ts.map fun t => t.map Int.toNat) hvt (by rw [← e0, ← e1, ← et]; exact hLI) (first1_toks hall) (by rw [List.length_map]; omega)
    · rw [pfault, if_neg h0, first1_split, if_pos hp, if_neg hf]
      exact chk_turns base late vp v0 v1 vt tvs p0 p1 ts hvt hLI (by omega) (by omega) hp _ rfl hf
  · rw [pfault, if_neg h0, first1_split, if_neg hp, if_neg hp]
    exact chk_pre base late vp v0 v1 vt tvs p0 p1 ts hvt hLI (by omega) (by omega) _ rfl hp
variable {G : Mem}
end Go.Proofs.YthljakcegoohlaaGreatDoor
namespace Go.Proofs.YthljakcegoohlaaGreatDoor
open Go Go.RowKit
variable {G : Mem}
set_option maxHeartbeats 4000000 in
theorem mayTurn_fn (b : List Nat) (l : Bool) (vp v0 v1 vt : Value) (fi : Bool) (tn : Int) (dd : Bool) (y : SY) (r : RS) (ow : Nat → Nat) (vk : Value) (us : Int) (f0 : Bool) (p0 p1 : List Int) (tvs : List Value) (ts : List (List Int)) (hvt : Shows G 1 vt tvs.length tvs) (hLI : ShowsLI G (v0 :: v1 :: tvs) (p0 :: p1 :: ts)) : Fn Tryz.prog G 38 #[.agg (shC b l vp v0 v1 vt fi tn dd y ow r vk us), .bool f0] (.bool (mayP dd tn tvs.length us f0 l (pfault l p0 p1 ts))) := by
  refine Qf1 Tryz.func38 ?_
  refine Qs<|Qp<|(Qh 0) fun r1=>(Qa)<|Qn<|Qs<|Qs<|Qp ?_
  refine e_join [(0, _), (1, _), (2, _), (4, _)] [(26, .bool (dd || (decide (us < 0) || (decide (tn < 0) || decide ((tvs.length : Int) ≤ tn)))))] [(0, some _)] ⟨rfl, rfl, rfl, rfl, trivial⟩ ⟨rfl, trivial⟩ ?_ ?_
  · skip
    refine (Qf 8)<|(QV 8 0)<|(Qm) ?_
    refine e_case (b := dd) (fun hb0 => ?_) (fun hb0 => ?_)
    · skip
      refine (Qo)<|(Qo)<|(Qo)<|(QT)<|(Qm)<|(Qo)<|(Qo)<|(Qo)<|(QT)<|(Qm)<|(Qo)<|(Qo)<|(Qo)<|(Qo)<|(Qo)<|(Qo)<|(Qo)<|(QT)<|Qn ?_
      exact ⟨⟨rfl, rfl, rfl, rfl, trivial⟩, ⟨bool_fin (by rw [hb0] <;> rfl), trivial⟩, ⟨rfl, trivial⟩⟩
    · skip
      refine (Qy)<|(Qf 239)<|(Qy)<|(QV 22 0)<|(Qy)<|(Ql)<|(QF)<|(Qm) ?_
      refine e_case (b := decide (us < 0)) (fun hb1 => ?_) (fun hb1 => ?_)
      · skip
        refine (Qo)<|(Qo)<|(Qo)<|(QT)<|(Qm)<|(Qo)<|(Qo)<|(Qo)<|(Qo)<|(Qo)<|(Qo)<|(Qo)<|(QT)<|Qn ?_
        exact ⟨⟨rfl, rfl, rfl, rfl, trivial⟩, ⟨bool_fin (by rw [hb0, hb1] <;> rfl), trivial⟩, ⟨rfl, trivial⟩⟩
      · skip
        refine (Qy)<|(Qf 7)<|(Qy)<|(QV 7 0)<|(Qy)<|(Ql)<|(QF)<|(Qm) ?_
        refine e_case (b := decide (tn < 0)) (fun hb2 => ?_) (fun hb2 => ?_)
        · skip
          refine (Qo)<|(Qo)<|(Qo)<|(Qo)<|(Qo)<|(Qo)<|(Qo)<|(QT)<|Qn ?_
          exact ⟨⟨rfl, rfl, rfl, rfl, trivial⟩, ⟨bool_fin (by rw [hb0, hb1, hb2] <;> rfl), trivial⟩, ⟨rfl, trivial⟩⟩
        · skip
          refine (Qy)<|(Qf 7)<|(Qy)<|(QV 7 0)<|(Qy)<|(Qf 0)<|(Qy)<|(Qf 5)<|(Qy)<|(QV 5 0)<|(Qy)<|(QC hvt)<|(Qy)<|(QE)<|(QF)<|Qn ?_
          exact ⟨⟨rfl, rfl, rfl, rfl, trivial⟩, ⟨bool_fin (by rw [hb0, hb1, hb2] <;> rfl), trivial⟩, ⟨rfl, trivial⟩⟩
  · simp only [catE]
    refine e_cond rfl ?_ ?_
    · intro hc0
      rw [show mayP dd tn tvs.length us f0 l (pfault l p0 p1 ts) = false from if_pos (or4_t hc0)]
      refine Qs<|Qp<|(Qa)<|Qn<|Qr ?_
      exact ⟨_, rfl, .tmp rfl⟩
    · intro hc0
      have hg := or4_f hc0
      obtain ⟨tq, rfl⟩ : ∃ tq : Nat, tn = (tq : Int) := ⟨tn.toNat, by omega⟩
      rw [show mayP dd (tq : Int) tvs.length us f0 l (pfault l p0 p1 ts) = _ from if_neg hg]
      rw [Int.toNat_natCast]
      refine Qk<|Qs<|Qp<|(Qf 7)<|(QV 7 0)<|(Q4 2)<|(Qc)<|(Qa)<|Qn<|Qs<|Qp ?_
      refine e_join [(0, _), (1, _), (2, _), (5, _), (26, _), (27, _), (28, _), (29, _), (30, _)] [(4, .bool ((f0 == (decide (((tq % 2 : Nat) : Int) = 0) != l)) && decide (((pfault l p0 p1 ts : Nat) : Int) = 0))), (43, .bool ((f0 == (decide (((tq % 2 : Nat) : Int) = 0) != l)) && decide (((pfault l p0 p1 ts : Nat) : Int) = 0)))] [(0, some _)] ⟨rfl, rfl, rfl, rfl, rfl, rfl, rfl, rfl, rfl, trivial⟩ ⟨rfl, trivial⟩ ?_ ?_
      · skip
        refine (Qm)<|(Qm)<|(Qf 0)<|(Qf 1)<|(QV 1 0) ?_
        refine e_neB (Uu 4) rfl rfl rfl ?_
        refine e_eqB (Uu 4) rfl rfl rfl ?_
        refine (Qm) ?_
        refine e_case (b := (f0 == (decide (((tq % 2 : Nat) : Int) = 0) != l))) (fun hb3 => ?_) (fun hb3 => ?_)
        · skip
          refine (Qy)<|(Qf 0)<|(Qy) ?_
          refine e_ldK (i := 0) 0 6 (Uu 29 rfl) rfl (Uz 29 rfl) rfl rfl rfl rfl (by decide) rfl ⟨[], trivial⟩ ?_
          refine (Qy) ?_
          refine e_call rfl (Un 67) (chk_all b l vp v0 v1 vt tvs p0 p1 ts hvt hLI) rfl rfl ?_
          refine (Qy)<|(Qc)<|(QT)<|(Qa)<|Qn ?_
          exact ⟨⟨rfl, rfl, rfl, rfl, rfl, rfl, rfl, rfl, rfl, trivial⟩, ⟨bool_fin (by rw [hb3] <;> rfl), bool_fin (by rw [hb3] <;> rfl), trivial⟩, ⟨rfl, trivial⟩⟩
        · skip
          refine (Qo)<|(Qo)<|(Qo)<|(Qo)<|(QF)<|(Qa)<|Qn ?_
          exact ⟨⟨rfl, rfl, rfl, rfl, rfl, rfl, rfl, rfl, rfl, trivial⟩, ⟨bool_fin (by rw [hb3] <;> rfl), bool_fin (by rw [hb3] <;> rfl), trivial⟩, ⟨rfl, trivial⟩⟩
      · simp only [catE]
        refine Qr ?_
        exact ⟨_, rfl, .tmp rfl⟩
set_option maxHeartbeats 4000000 in
theorem over_err (b : List Nat) (l : Bool) (vp v0 v1 vt : Value) (fi : Bool) (tn : Int) (dd : Bool) (y : SY) (r : RS) (ow : Nat → Nat) (vk : Value) (us : Int) (y2 : SY) (r2v : RS) (u2 : Int) (vb : Value) (e : Nat) (h1 : ones vp v0 v1 vt vk) (he : e ≠ 0) : Fn Tryz.prog G 40 #[.agg (shC b l vp v0 v1 vt fi tn dd y ow r vk us), .agg (shC b l vp v0 v1 vt fi tn dd y2 ow r2v vk u2), vb, ii e] (.tuple #[.agg (shC b l vp v0 v1 vt fi tn true y ow r vk us), nilS, ii e]) := by
  refine Qf3 Tryz.func40 ?_
  refine Qs<|Qp<|(Qh 0) fun r1=>(Qh 1) fun r2=>(QH 2) fun r3=>(Qa)<|(Qa)<|Qn<|Qs<|Qs<|Qp<|(Qm)<|(QN)<|Qn ?_
  refine e_cond rfl ?_ ?_
  · intro hc0
    refine Qs<|Qp<|(Qf 8) ?_
    refine e_stV (i := 0) 8 (Uz 4) rfl rfl rfl rfl rfl (by decide) (.inl rfl) ?_
    refine Qn<|Qs<|Qp<|(QD 0)<|(Qm) ?_
    refine e_storeA (i := 2) (Uz 37) rfl rfl (arrv_size _ _) (cells_one ⟨fun _ => rfl, fun _ => rfl, fun _ => h1.1, fun _ => h1.2.1, fun _ => h1.2.2.1, fun _ => h1.2.2.2.1, fun _ => rfl, fun _ => rfl, fun _ => rfl, fun _ => rfl, fun _ => rfl, fun _ => rfl, fun _ => rfl, fun _ => rfl, fun _ => rfl, fun _ => rfl, fun _ => rfl, fun _ => rfl, fun _ => rfl, fun _ => rfl, fun _ => rfl, fun _ => h1.2.2.2.2, fun _ => rfl, trivial⟩) rfl cells_sz (.inl rfl) ?_
    refine (Qa)<|(Qa)<|Qn<|Qr ?_
    exact ⟨_, _, _, rfl, .cell (i := 2) rfl rfl (Uu 37) rfl (Uz 37) (arrv_size _ _), .tmp rfl, .tmp rfl⟩
  · intro hc0
    exact absurd (of_decide_eq_false hc0) (by omega)
set_option maxHeartbeats 4000000 in
theorem over_ok (b : List Nat) (l : Bool) (vp v0 v1 vt : Value) (fi : Bool) (tq : Nat) (dd : Bool) (y : SY) (r : RS) (ow : Nat → Nat) (vk : Value) (us : Int) (y2 : SY) (r2v : RS) (u2 : Int) (vb : Value) (e : Nat) (h1 : ones vp v0 v1 vt vk) (he : e = 0) (htz : tq < 1000000) : Fn Tryz.prog G 40 #[.agg (shC b l vp v0 v1 vt fi ((tq : Nat) : Int) dd y ow r vk us), .agg (shC b l vp v0 v1 vt fi ((tq : Nat) : Int) dd y2 ow r2v vk u2), vb, ii e] (.tuple #[.agg (shC b l vp v0 v1 vt fi ((tq + 1 : Nat) : Int) dd y2 ow r2v vk u2), vb, ii 0]) := by
  refine Qf3 Tryz.func40 ?_
  refine Qs<|Qp<|(Qh 0) fun r1=>(Qh 1) fun r2=>(QH 2) fun r3=>(Qa)<|(Qa)<|Qn<|Qs<|Qs<|Qp<|(Qm)<|(QN)<|Qn ?_
  refine e_cond rfl ?_ ?_
  · intro hc0
    exact absurd (of_decide_eq_true hc0) (by omega)
  · intro hc0
    refine Qk<|Qs<|Qp<|(Qf 7)<|(QV 7 1)<|(Q2 1)<|(Qf 7) ?_
    refine e_stV (i := 1) 7 (Uz 3) rfl rfl rfl rfl rfl (by decide) (.inl rfl) ?_
    refine e_blk (c' := shC b l vp v0 v1 vt fi ((tq + 1 : Nat) : Int) dd y2 ow r2v vk u2) rfl ?_
    refine Qn<|Qs<|Qp<|(QD 1)<|(Qm) ?_
    refine e_storeA (i := 2) (Uz 37) rfl rfl (arrv_size _ _) (cells_one ⟨fun _ => rfl, fun _ => rfl, fun _ => h1.1, fun _ => h1.2.1, fun _ => h1.2.2.1, fun _ => h1.2.2.2.1, fun _ => rfl, fun _ => rfl, fun _ => rfl, fun _ => rfl, fun _ => rfl, fun _ => rfl, fun _ => rfl, fun _ => rfl, fun _ => rfl, fun _ => rfl, fun _ => rfl, fun _ => rfl, fun _ => rfl, fun _ => rfl, fun _ => rfl, fun _ => h1.2.2.2.2, fun _ => rfl, trivial⟩) rfl cells_sz (.inl rfl) ?_
    refine (Qa)<|(Qa)<|Qn<|Qr ?_
    exact ⟨_, _, _, rfl, .cell (i := 2) rfl rfl (Uu 37) rfl (Uz 37) (arrv_size _ _), .tmp rfl, .tmp rfl⟩
end Go.Proofs.YthljakcegoohlaaGreatDoor
namespace Go.Proofs.YthljakcegoohlaaGreatDoor
open Go Go.RowKit
variable {G : Mem}
set_option maxRecDepth 20000 in
set_option maxHeartbeats 8000000 in
theorem write_no (b : List Nat) (l : Bool) (vp v0 v1 vt : Value) (fi : Bool) (tn : Int) (dd : Bool) (y : SY) (r : RS) (ow : Nat → Nat) (vk : Value) (us : Int) (ps : List (Nat → Nat)) (qs p0 p1 : List Int) (tvs : List Value) (ts : List (List Int)) (hk : Shows G 32 vk ps.length (psC ps)) (hvp : Shows G 1 vp qs.length (qs.map iv)) (hvt : Shows G 1 vt tvs.length tvs) (hLI : ShowsLI G (v0 :: v1 :: tvs) (p0 :: p1 :: ts)) (zk : ps.length * 32 ≤ 140737488355328) (zp : qs.length * 8 ≤ 140737488355328) (zt : tvs.length * 24 ≤ 140737488355328) (zl : ∀ q ∈ p0 :: p1 :: ts, q.length * 8 ≤ 140737488355328) (sc : Nat → Nat) (vx : Value) (hm : mayP dd tn ts.length us fi l (pfault l p0 p1 ts) = false) : Fx Tryz.prog G [] 11 #[.agg (shC b l vp v0 v1 vt fi tn dd y ow r vk us), .agg (arr .u8 32 sc), vx] (fun v l1 nw => l1 = [] ∧ WrIs b l qs p0 p1 ts ps fi tn dd y ow r us 9 [] v nw) := by
  refine fxD3 (n := 40) Tryz.func11 rfl rfl (by simp) (argE [.agg (shC b l vp v0 v1 vt fi tn dd y ow r vk us), .agg (arr .u8 32 sc), vx] 0) (argE_ok _) ?_
  refine Qs<|Qp<|(Qh 0) fun r1=>(Qh 1) fun r2=>(QH 2) fun r3=>(Qa)<|(Qa)<|Qn<|Qs<|QR ⟨[], 4, [], none⟩<|(QD 0) ?_
  refine e_callD [(0, _), (1, _), (2, _)] (by repeat (first | exact bag_nil | exact bag_lab _ | apply bag_skip rfl)) ⟨rfl, rfl, rfl, trivial⟩ rfl rfl rfl (Un 37) seenG (copied_fn b l vp v0 v1 vt fi tn dd y r ow vk us ps qs p0 p1 tvs ts hk hvp hvt hLI zk zp zt zl) (copy_room b l qs p0 p1 ts ps fi tn dd y ow r us) rfl rfl fun v1_1 nw1_1 hD1_1 => ?_
  simp only [catL]
  obtain ⟨uP, a0, a1, uT, uK, xs, rfl, sP, sT, sL, sK, h1⟩ := hD1_1
  have hxl : xs.length = ts.length := (li_tail (li_tail sL)).1
  refine e_storeA (i := 0) (Uz 37) rfl rfl (arrv_size _ _) (cells_one ⟨fun _ => rfl, fun _ => rfl, fun _ => h1.1, fun _ => h1.2.1, fun _ => h1.2.2.1, fun _ => h1.2.2.2.1, fun _ => rfl, fun _ => rfl, fun _ => rfl, fun _ => rfl, fun _ => rfl, fun _ => rfl, fun _ => rfl, fun _ => rfl, fun _ => rfl, fun _ => rfl, fun _ => rfl, fun _ => rfl, fun _ => rfl, fun _ => rfl, fun _ => rfl, fun _ => h1.2.2.2.2, fun _ => rfl, trivial⟩) rfl cells_sz (.inl rfl) ?_
  refine Qn<|Qs<|Qs<|Qp<|(QD 0)<|(Qf 6)<|(QV 6 0) ?_
  refine e_callS rfl rfl (Un 38) (seen_bag (by repeat (first | exact bag_nil | exact bag_lab _ | apply bag_skip rfl)) rfl) (mayTurn_fn b l uP a0 a1 uT fi tn dd y r ow uK us fi p0 p1 xs ts sT sL) rfl rfl ?_
  refine e_as (show _ = Value.bool false by rw [hxl, hm]) ?_
  refine (Q0)<|Qn<|(Qct)<|Qs<|Qp<|(QD 0) ?_
  refine e_storeA (i := 2) (Uz 37) rfl rfl (arrv_size _ _) (cells_one ⟨fun _ => rfl, fun _ => rfl, fun _ => h1.1, fun _ => h1.2.1, fun _ => h1.2.2.1, fun _ => h1.2.2.2.1, fun _ => rfl, fun _ => rfl, fun _ => rfl, fun _ => rfl, fun _ => rfl, fun _ => rfl, fun _ => rfl, fun _ => rfl, fun _ => rfl, fun _ => rfl, fun _ => rfl, fun _ => rfl, fun _ => rfl, fun _ => rfl, fun _ => rfl, fun _ => h1.2.2.2.2, fun _ => rfl, trivial⟩) rfl cells_sz (.inl rfl) ?_
  refine (Qa)<|(Qa)<|Qn<|Qr ?_
  exact ⟨_, _, _, _, _, _, ([] ++ nw1_1), rfl, .cell (i := 2) rfl rfl (Uu 37) rfl (Uz 37) (arrv_size _ _), .tmp rfl, .tmp rfl, ⟨_, nilS, rfl, ⟨uP, a0, a1, uT, uK, xs, rfl, sP, sT, sL, sK, h1⟩, shows_nil _ 1⟩, (by repeat (first | exact bag_nil | exact bag_lab _ | apply bag_skip rfl))⟩
end Go.Proofs.YthljakcegoohlaaGreatDoor
