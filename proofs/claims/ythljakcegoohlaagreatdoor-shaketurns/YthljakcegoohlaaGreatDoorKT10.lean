import Derived.Test.YthljakcegoohlaaGreatDoorKT9
set_option maxRecDepth 30000
namespace Go.Proofs.YthljakcegoohlaaGreatDoor
open Go Go.RowKit
variable {G : Mem}
set_option maxHeartbeats 2000000 in
theorem clone_key (v : Value) (n : Nat) (xs : List Value) (hv : Shows G 32 v n xs) (h1 : ∀ u ∈ xs, u.oneCell' = true) (hm : n * 32 ≤ 140737488355328) : Fx Tryz.prog G [] 25 #[v] (fun u l1 nw => l1 = [] ∧ ∃ v', u = v' ∧ OwnS 30 32 v' n xs nw) := by
  refine QfN Tryz.func25 ?_
  refine Qs<|Qp<|(Qa)<|Qn<|Qs<|Qs<|Qp<|(Qm) ?_
  refine e_eqNil hv (Uu 24) rfl rfl rfl fun bq1_1 hbq1_1 => ?_
  refine Qn ?_
  refine e_cond rfl ?_ ?_
  · intro hc0
    obtain rfl : n = 0 := hbq1_1 hc0
    obtain rfl : xs = [] := List.length_eq_zero_iff.1 (by have := hv.len; simpa using this)
    refine Qs<|Qp<|(Qa)<|Qn<|Qr ?_
    exact ⟨_, _, _, 99, rfl, .tmp rfl, (own_fix (own_nil _ _) (by simp) (by simp)), rfl⟩
  · intro hc0
    refine Qk<|Qs<|Qp ?_
    refine e_buildSl0 0 (Uu 24 rfl) (Uz 30 rfl) rfl fun r1 => ?_
    refine (Qm) ?_
    refine e_append 0 own_none hv rfl seenG (Uu 24) (Uz 30) (Uy 30) (Ub 30) (by rfl) rfl rfl h1 (by simp only [maxLen]; omega) (by omega) rfl fun v2_2 oz2_2 ho2_2 => ?_
    refine (Qa)<|Qn<|Qr ?_
    exact ⟨_, _, _, 0, rfl, .tmp rfl, (own_fix ho2_2 (by simp) (by simp)), rfl⟩
set_option maxHeartbeats 2000000 in
theorem clone_int (v : Value) (n : Nat) (xs : List Value) (hv : Shows G 1 v n xs) (h1 : ∀ u ∈ xs, u.oneCell' = true) (hm : n * 8 ≤ 140737488355328) : Fx Tryz.prog G [] 65 #[v] (fun u l1 nw => l1 = [] ∧ ∃ v', u = v' ∧ OwnS 3 1 v' n xs nw) := by
  refine QfN Tryz.func65 ?_
  refine Qs<|Qp<|(Qa)<|Qn<|Qs<|Qs<|Qp<|(Qm) ?_
  refine e_eqNil hv (Uu 25) rfl rfl rfl fun bq1_1 hbq1_1 => ?_
  refine Qn ?_
  refine e_cond rfl ?_ ?_
  · intro hc0
    obtain rfl : n = 0 := hbq1_1 hc0
    obtain rfl : xs = [] := List.length_eq_zero_iff.1 (by have := hv.len; simpa using this)
    refine Qs<|Qp<|(Qa)<|Qn<|Qr ?_
    exact ⟨_, _, _, 99, rfl, .tmp rfl, (own_fix (own_nil _ _) (by simp) (by simp)), rfl⟩
  · intro hc0
    refine Qk<|Qs<|Qp ?_
    refine e_buildSl0 0 (Uu 25 rfl) (Uz 3 rfl) rfl fun r1 => ?_
    refine (Qm) ?_
    refine e_append 0 own_none hv rfl seenG (Uu 25) (Uz 3) (Uy 3) (Ub 3) (by rfl) rfl rfl h1 (by simp only [maxLen]; omega) (by omega) rfl fun v2_2 oz2_2 ho2_2 => ?_
    refine (Qa)<|Qn<|Qr ?_
    exact ⟨_, _, _, 0, rfl, .tmp rfl, (own_fix ho2_2 (by simp) (by simp)), rfl⟩
set_option maxHeartbeats 2000000 in
theorem clone_ints (v : Value) (n : Nat) (xs : List Value) (hv : Shows G 1 v n xs) (h1 : ∀ u ∈ xs, u.oneCell' = true) (hm : n * 24 ≤ 140737488355328) : Fx Tryz.prog G [] 66 #[v] (fun u l1 nw => l1 = [] ∧ ∃ v', u = v' ∧ OwnS 25 1 v' n xs nw) := by
  refine QfN Tryz.func66 ?_
  refine Qs<|Qp<|(Qa)<|Qn<|Qs<|Qs<|Qp<|(Qm) ?_
  refine e_eqNil hv (Uu 27) rfl rfl rfl fun bq1_1 hbq1_1 => ?_
  refine Qn ?_
  refine e_cond rfl ?_ ?_
  · intro hc0
    obtain rfl : n = 0 := hbq1_1 hc0
    obtain rfl : xs = [] := List.length_eq_zero_iff.1 (by have := hv.len; simpa using this)
    refine Qs<|Qp<|(Qa)<|Qn<|Qr ?_
    exact ⟨_, _, _, 99, rfl, .tmp rfl, (own_fix (own_nil _ _) (by simp) (by simp)), rfl⟩
  · intro hc0
    refine Qk<|Qs<|Qp ?_
    refine e_buildSl0 0 (Uu 27 rfl) (Uz 25 rfl) rfl fun r1 => ?_
    refine (Qm) ?_
    refine e_append 0 own_none hv rfl seenG (Uu 27) (Uz 25) (Uy 25) (Ub 25) (by rfl) rfl rfl h1 (by simp only [maxLen]; omega) (by omega) rfl fun v2_2 oz2_2 ho2_2 => ?_
    refine (Qa)<|Qn<|Qr ?_
    exact ⟨_, _, _, 0, rfl, .tmp rfl, (own_fix ho2_2 (by simp) (by simp)), rfl⟩
end Go.Proofs.YthljakcegoohlaaGreatDoor
namespace Go.Proofs.YthljakcegoohlaaGreatDoor
open Go Go.RowKit
variable {G : Mem}
set_option maxRecDepth 20000 in
set_option maxHeartbeats 8000000 in
theorem begin_ok (hO : DOR ∈ G) (nm : List Nat) (hnb : ∀ x ∈ nm, x < 256) (hnl : nm.length ≤ 1000000) (fi : Bool) (pv : Value) (pl : List Nat) (hpv : Sh G pv pl) (hpb : ∀ x ∈ pl, x < 256) (hpl : pl.length ≤ 200) (ow th : Nat → Nat) (ho : B32 ow) (hth : B32 th) (kn : Bool) (htk : kn = false → allEq 32 th (fun _ => 0) = true) (ea : Nat → Nat) (he : B32 ea) (vk : Value) (ps : List (Nat → Nat)) (hk : Shows G 32 vk ps.length (psC ps)) (base : List Nat) (late : Bool) (qs : List Int) (q0 q1 : List Nat) (us : List (List Nat)) (hps : ps.length = qs.length) (hp4 : ps.length ≤ 4) (hqq : q0.length ≤ 1000 ∧ q1.length ≤ 1000) (ht0 : ∀ x ∈ q0, x = 1 ∨ x = 2) (ht1 : ∀ x ∈ q1, x = 1 ∨ x = 2) (hkn : ∀ a : Nat, a < 2 → ∀ x ∈ qq q0 q1 a, x = 2 → (fi == decide ((a : Int) = 0)) = false → kn = true) (hPar : Fx Tryz.prog G [] 24 #[sv nm] (fun v l1 nw => l1 = [] ∧ ∃ w', v = .tuple #[w', ii 0] ∧ PatIsI base late qs q0 q1 us w' nw)) (z : SY × RS) (hz : aheadP fi ow ea (npk ps) q0 q1 ((hashP (begY nm) pl), ((fun _ => 0), false, th, kn, (fun _ => 0), false)) = z) : Fx Tryz.prog G [] 8 #[sv nm, .bool fi, pv, .agg (arr .u8 32 ow), .agg (arr .u8 32 th), .bool kn, .agg (arr .u8 32 ea), vk] (fun v l1 nw => l1 = [] ∧ ∃ v', v = .tuple #[v', ii 0] ∧ CopyIs base late qs (ci q0) (ci q1) (us.map ci) ps fi 0 false z.1 ow z.2 0 v' nw) := by
  obtain ⟨y2, hy2⟩ : ∃ y, y = hashP (begY nm) pl := ⟨_, rfl⟩
  have hyb := okY_beg hnb
  have hyc : okY y2 := by rw [hy2]; exact okY_hash hyb _
  have hR0 : okR ((fun _ => 0), false, th, kn, (fun _ => 0), false) := ⟨by intro _ _; exact (by decide : 0 < 256), hth, by intro _ _; exact (by decide : 0 < 256)⟩
  refine fxD2 (n := 68) Tryz.func8 rfl rfl (by simp) (argE [sv nm, .bool fi, pv, .agg (arr .u8 32 ow), .agg (arr .u8 32 th), .bool kn, .agg (arr .u8 32 ea), vk] 0) (argE_ok _) ?_
  refine Qs<|Qp<|(Qh 0) fun r1=>(Qh 1) fun r2=>(Qh 2) fun r3=>(QH 3) fun r4=>(Qa)<|Qn<|Qs<|QR ⟨[], 4, [], none⟩<|(Qm) ?_
  refine e_callD [(0, _), (1, _), (2, _), (3, _)] (by repeat (first | exact bag_nil | exact bag_lab _ | apply bag_skip rfl)) ⟨rfl, rfl, rfl, rfl, trivial⟩ rfl rfl rfl (Un 24) seenG hPar (pat_roomI base late qs q0 q1 us) rfl rfl fun v1_1 nw1_1 hD1_1 => ?_
  simp only [catL]
  obtain ⟨_, rfl, uP, hP, a0, a1, uT, xs, rfl, hA0, hA1, hT, hxl, hL⟩ := hD1_1
  rw [← hxl] at hT
  refine (Qm)<|(Qx)<|(Qx)<|(QH 4) fun r5=>?_
  refine e_storeA (i := 4) (Uz 29) rfl rfl (arrv_size _ _) (catOkP (shows_oneC hP) (shows_oneC hA0) (shows_oneC hA1) (shows_oneC hT)) rfl cells_sz (.inl rfl) ?_
  refine (Qa)<|Qn<|Qs<|Qs<|Qp<|(Qm)<|(QN) ?_
  refine e_as (congrArg Value.bool (decide_eq_false (by decide))) ?_
  refine Qn<|(Qcf)<|Qk<|Qs<|Qs<|Qp<|(Qm)<|(QC hpv)<|(QG)<|(Qaf)<|(Qm)<|(Qy)<|(Qm)<|(Qy)<|(QC hk)<|(Qy)<|(Qf 2)<|(Qy)<|(QV 2 4)<|(Qy)<|(QC hP)<|(Qy)<|(QN)<|(Qaf)<|(QF)<|Qn<|(Qcf)<|Qk<|Qs<|Qs ?_
  cases kn
  · skip
    refine Qp<|(Qm)<|(Q0)<|(Qm)<|(Qy)<|(Qd 1)<|(Qy) ?_
    refine e_build0 (Ub 30 rfl) (Uu 30 rfl) sis5 rfl ?_
    refine (Qy) ?_
    refine e_neA (Uu 30) (Uu 5) (Uz 5) eqg30 rfl rfl rfl ?_
    refine e_as (congrArg Value.bool (show (!allEq 32 th (fun _ => 0)) = false by rw [htk rfl]; rfl)) ?_
    refine (QT)<|Qn<|(Qcf)<|Qk<|Qs<|(Qq ⟨[], 4, [], none⟩)<|(QD 4)<|(Qm)<|(Qd 0)<|(Qd 1)<|(Qm)<|(Qm) ?_
    refine e_callD [(0, _), (1, _), (2, _), (3, _), (4, _)] (by repeat (first | exact bag_nil | exact bag_lab _ | apply bag_skip rfl)) ⟨rfl, rfl, rfl, rfl, rfl, trivial⟩ rfl rfl rfl (Un 25) seenG ((clone_key vk ps.length (psC ps) hk (keys_one ps) (by omega)).imp fun u l1 nw ⟨h1, v9, h2, h3⟩ => ⟨h1, h2 ▸ h3.shows⟩) (shows_room 32 (psC ps) ps.length (flatMap_len keyC_len ps)) rfl rfl fun v5_2 nw5_2 hD5_2 => ?_
    simp only [catL]
    revert v5_2
    intro uK sK
    refine e_buildS ((shC base late uP a0 a1 uT fi 0 false SYZ ow ((fun _ => 0), false, th, false, (fun _ => 0), false) uK 0)) (Ub 37 rfl) (Uu 37 rfl) pls37 rfl (by have h9 := shows_oneC sK; clear sK; revert h9; cases uK with | agg a => intro h9; cases h9 | _ => intro _; show _ = _; kernel_rfl) rfl ?_
    refine (QH 5) fun r6=>?_
    refine e_storeA (i := 5) (Uz 37) rfl rfl (arrv_size _ _) (cells_one ⟨fun _ => rfl, fun _ => rfl, fun _ => shows_oneC hP, fun _ => shows_oneC hA0, fun _ => shows_oneC hA1, fun _ => shows_oneC hT, fun _ => rfl, fun _ => rfl, fun _ => rfl, fun _ => rfl, fun _ => rfl, fun _ => rfl, fun _ => rfl, fun _ => rfl, fun _ => rfl, fun _ => rfl, fun _ => rfl, fun _ => rfl, fun _ => rfl, fun _ => rfl, fun _ => rfl, fun _ => shows_oneC sK, fun _ => rfl, trivial⟩) rfl cells_sz (.inl rfl) ?_
    refine Qn<|Qs<|Qp<|(Qm) ?_
    refine e_call rfl (Un 27) ((dbegin9_fn (G := G) nm hnb (by omega)).more (in1 hO)) rfl rfl ?_
    refine e_as (show _ = SVy (begY nm) from rfl) ?_
    refine (Qm) ?_
    refine e_call rfl (Un 26) (symHashD hO (begY nm) hyb pv pl hpv hpb (by omega)) rfl rfl ?_
    refine e_as (congrArg SVy hy2.symm) ?_
    refine (Qf 9) ?_
    refine e_stK (i := 5) 9 5 (Uz 35 rfl) rfl rfl ⟨fun _ => rfl, fun _ => rfl, fun _ => rfl, fun _ => rfl, fun _ => rfl, trivial⟩ rfl rfl rfl rfl (by decide) (.inl rfl) ?_
    refine e_blk (c' := ((shC base late uP a0 a1 uT fi 0 false y2 ow ((fun _ => 0), false, th, false, (fun _ => 0), false) uK 0))) rfl ?_
    refine Qn<|Qs<|Qp<|(QD 5)<|(Qd 2) ?_
    refine e_callS rfl rfl (Un 28) (seen_app seenG (seen_bag (by repeat (first | exact bag_nil | exact bag_lab _ | apply bag_skip rfl)) rfl)) (ahead11_fn (G := G ++ (([] ++ nw1_1) ++ nw5_2)) (List.mem_append_left _ hO) base late uP a0 a1 uT fi 0 false y2 ((fun _ => 0), false, th, false, (fun _ => 0), false) ow uK 0 ps (sK.mono (fun x hx => List.mem_append_right _ (List.mem_append_right _ hx))) ⟨shows_oneC hP, shows_oneC hA0, shows_oneC hA1, shows_oneC hT, shows_oneC sK⟩ hyc hR0 ho ea he q0 q1 (hA0.mono (fun x hx => List.mem_append_right _ (List.mem_append_left _ (List.mem_append_right _ hx)))) (hA1.mono (fun x hx => List.mem_append_right _ (List.mem_append_left _ (List.mem_append_right _ hx)))) ht0 ht1 hqq hkn z (by rw [hy2]; exact hz)) rfl rfl ?_
    refine (Qx)<|(Qx) ?_
    refine e_storeA (i := 3) (Uz 37) rfl rfl (arrv_size _ _) (cells_one ⟨fun _ => rfl, fun _ => rfl, fun _ => shows_oneC hP, fun _ => shows_oneC hA0, fun _ => shows_oneC hA1, fun _ => shows_oneC hT, fun _ => rfl, fun _ => rfl, fun _ => rfl, fun _ => rfl, fun _ => rfl, fun _ => rfl, fun _ => rfl, fun _ => rfl, fun _ => rfl, fun _ => rfl, fun _ => rfl, fun _ => rfl, fun _ => rfl, fun _ => rfl, fun _ => rfl, fun _ => shows_oneC sK, fun _ => rfl, trivial⟩) rfl cells_sz (.inl rfl) ?_
    refine (Qa)<|Qn<|Qr ?_
    exact ⟨_, _, _, (([] ++ nw1_1) ++ nw5_2), rfl, .cell (i := 3) rfl rfl (Uu 37) rfl (Uz 37) (arrv_size _ _), .tmp rfl, ⟨uP, a0, a1, uT, uK, xs, rfl, hP.mono (fun x hx => List.mem_append_left _ (List.mem_append_right _ hx)), hT.mono (fun x hx => List.mem_append_left _ (List.mem_append_right _ hx)), li_app2 (hA0.mono (fun x hx => List.mem_append_left _ (List.mem_append_right _ hx))) (hA1.mono (fun x hx => List.mem_append_left _ (List.mem_append_right _ hx))) ⟨hL.1, fun j hj => (hL.2 j hj).mono (fun x hx => List.mem_append_left _ (List.mem_append_right _ hx))⟩, sK.mono (fun x hx => List.mem_append_right _ hx), ⟨shows_oneC hP, shows_oneC hA0, shows_oneC hA1, shows_oneC hT, shows_oneC sK⟩⟩, (by repeat (first | exact bag_nil | exact bag_lab _ | apply bag_skip rfl))⟩
  · skip
    refine Qp<|(Qm)<|(Q0)<|(Qm)<|(Qo)<|(Qo)<|(Qo)<|(QF)<|Qn<|(Qcf)<|Qk<|Qs<|(Qq ⟨[], 4, [], none⟩)<|(QD 4)<|(Qm)<|(Qd 0)<|(Qd 1)<|(Qm)<|(Qm) ?_
    refine e_callD [(0, _), (1, _), (2, _), (3, _), (4, _)] (by repeat (first | exact bag_nil | exact bag_lab _ | apply bag_skip rfl)) ⟨rfl, rfl, rfl, rfl, rfl, trivial⟩ rfl rfl rfl (Un 25) seenG ((clone_key vk ps.length (psC ps) hk (keys_one ps) (by omega)).imp fun u l1 nw ⟨h1, v9, h2, h3⟩ => ⟨h1, h2 ▸ h3.shows⟩) (shows_room 32 (psC ps) ps.length (flatMap_len keyC_len ps)) rfl rfl fun v5_2 nw5_2 hD5_2 => ?_
    simp only [catL]
    revert v5_2
    intro uK sK
    refine e_buildS ((shC base late uP a0 a1 uT fi 0 false SYZ ow ((fun _ => 0), false, th, true, (fun _ => 0), false) uK 0)) (Ub 37 rfl) (Uu 37 rfl) pls37 rfl (by have h9 := shows_oneC sK; clear sK; revert h9; cases uK with | agg a => intro h9; cases h9 | _ => intro _; show _ = _; kernel_rfl) rfl ?_
    refine (QH 5) fun r6=>?_
    refine e_storeA (i := 5) (Uz 37) rfl rfl (arrv_size _ _) (cells_one ⟨fun _ => rfl, fun _ => rfl, fun _ => shows_oneC hP, fun _ => shows_oneC hA0, fun _ => shows_oneC hA1, fun _ => shows_oneC hT, fun _ => rfl, fun _ => rfl, fun _ => rfl, fun _ => rfl, fun _ => rfl, fun _ => rfl, fun _ => rfl, fun _ => rfl, fun _ => rfl, fun _ => rfl, fun _ => rfl, fun _ => rfl, fun _ => rfl, fun _ => rfl, fun _ => rfl, fun _ => shows_oneC sK, fun _ => rfl, trivial⟩) rfl cells_sz (.inl rfl) ?_
    refine Qn<|Qs<|Qp<|(Qm) ?_
    refine e_call rfl (Un 27) ((dbegin9_fn (G := G) nm hnb (by omega)).more (in1 hO)) rfl rfl ?_
    refine e_as (show _ = SVy (begY nm) from rfl) ?_
    refine (Qm) ?_
    refine e_call rfl (Un 26) (symHashD hO (begY nm) hyb pv pl hpv hpb (by omega)) rfl rfl ?_
    refine e_as (congrArg SVy hy2.symm) ?_
    refine (Qf 9) ?_
    refine e_stK (i := 5) 9 5 (Uz 35 rfl) rfl rfl ⟨fun _ => rfl, fun _ => rfl, fun _ => rfl, fun _ => rfl, fun _ => rfl, trivial⟩ rfl rfl rfl rfl (by decide) (.inl rfl) ?_
    refine e_blk (c' := ((shC base late uP a0 a1 uT fi 0 false y2 ow ((fun _ => 0), false, th, true, (fun _ => 0), false) uK 0))) rfl ?_
    refine Qn<|Qs<|Qp<|(QD 5)<|(Qd 2) ?_
    refine e_callS rfl rfl (Un 28) (seen_app seenG (seen_bag (by repeat (first | exact bag_nil | exact bag_lab _ | apply bag_skip rfl)) rfl)) (ahead11_fn (G := G ++ (([] ++ nw1_1) ++ nw5_2)) (List.mem_append_left _ hO) base late uP a0 a1 uT fi 0 false y2 ((fun _ => 0), false, th, true, (fun _ => 0), false) ow uK 0 ps (sK.mono (fun x hx => List.mem_append_right _ (List.mem_append_right _ hx))) ⟨shows_oneC hP, shows_oneC hA0, shows_oneC hA1, shows_oneC hT, shows_oneC sK⟩ hyc hR0 ho ea he q0 q1 (hA0.mono (fun x hx => List.mem_append_right _ (List.mem_append_left _ (List.mem_append_right _ hx)))) (hA1.mono (fun x hx => List.mem_append_right _ (List.mem_append_left _ (List.mem_append_right _ hx)))) ht0 ht1 hqq hkn z (by rw [hy2]; exact hz)) rfl rfl ?_
    refine (Qx)<|(Qx) ?_
    refine e_storeA (i := 3) (Uz 37) rfl rfl (arrv_size _ _) (cells_one ⟨fun _ => rfl, fun _ => rfl, fun _ => shows_oneC hP, fun _ => shows_oneC hA0, fun _ => shows_oneC hA1, fun _ => shows_oneC hT, fun _ => rfl, fun _ => rfl, fun _ => rfl, fun _ => rfl, fun _ => rfl, fun _ => rfl, fun _ => rfl, fun _ => rfl, fun _ => rfl, fun _ => rfl, fun _ => rfl, fun _ => rfl, fun _ => rfl, fun _ => rfl, fun _ => rfl, fun _ => shows_oneC sK, fun _ => rfl, trivial⟩) rfl cells_sz (.inl rfl) ?_
    refine (Qa)<|Qn<|Qr ?_
    exact ⟨_, _, _, (([] ++ nw1_1) ++ nw5_2), rfl, .cell (i := 3) rfl rfl (Uu 37) rfl (Uz 37) (arrv_size _ _), .tmp rfl, ⟨uP, a0, a1, uT, uK, xs, rfl, hP.mono (fun x hx => List.mem_append_left _ (List.mem_append_right _ hx)), hT.mono (fun x hx => List.mem_append_left _ (List.mem_append_right _ hx)), li_app2 (hA0.mono (fun x hx => List.mem_append_left _ (List.mem_append_right _ hx))) (hA1.mono (fun x hx => List.mem_append_left _ (List.mem_append_right _ hx))) ⟨hL.1, fun j hj => (hL.2 j hj).mono (fun x hx => List.mem_append_left _ (List.mem_append_right _ hx))⟩, sK.mono (fun x hx => List.mem_append_right _ hx), ⟨shows_oneC hP, shows_oneC hA0, shows_oneC hA1, shows_oneC hT, shows_oneC sK⟩⟩, (by repeat (first | exact bag_nil | exact bag_lab _ | apply bag_skip rfl))⟩
end Go.Proofs.YthljakcegoohlaaGreatDoor
namespace Go.Proofs.YthljakcegoohlaaGreatDoor
open Go Go.RowKit
variable {G : Mem}
set_option maxHeartbeats 4000000 in
theorem knows0_fn (rp ra rb : Nat) (base : List Nat) (late : Bool) (vp v0 v1 vt : Value) (a c b d : Nat → Nat) (ha : B32 a) (q : List Nat) (hv : Shows G 1 v0 q.length ((ci q).map iv)) (hz : q.length ≤ 1000000) : Fn Tryz.prog ((⟨rp, patC base late vp v0 v1 vt, 29⟩ : Blk) :: (⟨ra, arr .u8 64 (sdF a c), 54⟩ : Blk) :: (⟨rb, arr .u8 64 (sdF b d), 54⟩ : Blk) :: G) 51 #[ii 0, ptr rp, ptr ra, ptr rb] (.tuple #[.agg (arr .u8 32 (if 2 ∈ q then pubK a else fun _ => 0)), .bool (decide (2 ∈ q))]) := by
  have hv9 : Shows ((⟨rp, patC base late vp v0 v1 vt, 29⟩ : Blk) :: (⟨ra, arr .u8 64 (sdF a c), 54⟩ : Blk) :: (⟨rb, arr .u8 64 (sdF b d), 54⟩ : Blk) :: G) 1 v0 q.length ((ci q).map iv) := hv.mono fun x hx => List.mem_cons_of_mem _ (List.mem_cons_of_mem _ (List.mem_cons_of_mem _ hx))
  refine Qf2 Tryz.func51 ?_
  refine Qs<|Qp<|(QH 0) fun r1=>(Qa)<|Qn<|Qs<|Qs<|Qp<|(Qm)<|(Qf 3)<|(QB 3) ?_
  refine e_load1g (i := 0) (Uu 25) rfl rfl rfl (show _ = some v0 from rfl) rfl ?_
  refine (QC hv9)<|(Qm)<|Qn<|Qb ?_
  refine QzK [(0, _), (2, _), (3, _), (5, _), (12, _), (13, _)] [(0, _)] (fun kk E m => ∃ (i : Nat), kk = q.length - i ∧ E = [(14, ii i)] ∧ m = [] ∧ (i ≤ q.length) ∧ (∀ j, j < i → q.getD j 0 ≠ 2)) ⟨0, rfl, rfl, rfl, by omega, fun _ h => absurd h (Nat.not_lt_zero _)⟩ ⟨rfl, rfl, rfl, rfl, rfl, rfl, rfl, trivial⟩ ⟨rfl, trivial⟩ ?_
  rintro kk E m ⟨i, rfl, rfl, rfl, hf0_0, hf0_1⟩
  simp only [catE, catL]
  refine Qs<|Qp<|(Ql)<|Qn<|Qs ?_
  refine e_cond rfl ?_ ?_
  · intro hc0
    have hc0 : i < q.length := by have := of_decide_eq_true hc0; omega
    refine Qk<|Qs<|Qb<|Qs<|Qp ?_
    refine e_atV hv9 (Uu 25) (Uz 3) rfl rfl (by omega) rfl ?_
    refine (QS) ?_
    refine e_loadV hv9 seenG (Uu 3) rfl rfl (ci_at (by omega)) rfl ?_
    refine e_as (show _ = ii (q.getD i 0) from rfl) ?_
    refine (Qa)<|Qn<|Qs<|Qp<|(Qm)<|(Qc)<|Qn ?_
    refine e_cond rfl ?_ ?_
    · intro hc1
      have h2 : 2 ∈ q := two_in (by omega) (of_decide_eq_true hc1)
      rw [if_pos h2, decide_eq_true h2]
      refine Qs<|Qp ?_
      refine e_loadAg (i := 1) (Uu 54) rfl (Uz 54) rfl rfl (arr_size _ _ _) rfl ?_
      refine e_loadAg (i := 2) (Uu 54) rfl (Uz 54) rfl rfl (arr_size _ _ _) rfl ?_
      refine e_buildSl 1 (arr .u8 128 (sdG a c b d)) (Uu 91 rfl) (Uz 54 rfl) (Ub 54 rfl) (by decide) (by decide) rfl (by kernel_rfl) rfl fun r2 => ?_
      refine (Qm) ?_
      refine e_atSl (0) (Uu 91) (Uz 54) rfl rfl (by omega) (by omega) rfl ?_
      refine (Qf 0) ?_
      refine e_loadS (i := 1) (Uu 30) rfl (Uz 30) rfl rfl (by omega) rfl ⟨[], trivial⟩ ?_
      refine e_as (show _ = Value.agg (arr .u8 32 a) from congrArg Value.agg (arr_congr fun j hj => sd_a hj)) ?_
      refine e_call rfl (Un 22) (lbase_fn a ha) rfl rfl ?_
      refine e_as (show _ = Value.agg (arr .u8 32 (pubK a)) from rfl) ?_
      refine (Qt 0)<|(Qa)<|Qn<|Qr ?_
      first | rw [if_neg (two_none (fun j hj => hf0_1 j (by omega))), decide_eq_false (two_none (fun j hj => hf0_1 j (by omega)))] | skip
      exact ⟨_, _, rfl, .cell (i := 0) rfl rfl (Uu 30) rfl (Uz 30) (arr_size _ _ _), .tmp rfl⟩
    · intro hc1
      have hcf : q.getD i 0 ≠ 2 := fun h => of_decide_eq_false hc1 (by omega)
      refine Qk<|Qp<|(Q2 1)<|(Qm)<|Qn ?_
      refine QzL ⟨i + 1, rfl, rfl, rfl, by omega, fun j hj => by by_cases e : j = i; (subst e; exact hcf); exact hf0_1 j (by omega)⟩ ⟨rfl, rfl, rfl, rfl, rfl, rfl, rfl, trivial⟩ ⟨rfl, trivial⟩ ?_
      omega
  · intro hc0
    have hc0 := of_decide_eq_false hc0
    have hz0 : i = q.length := by omega
    refine Qe<|Qs<|Qp ?_
    refine e_build0 (Ub 30 rfl) (Uu 30 rfl) sis5 rfl ?_
    refine (Qt 0)<|(Qa)<|Qn<|Qr ?_
    first | rw [if_neg (two_none (fun j hj => hf0_1 j (by omega))), decide_eq_false (two_none (fun j hj => hf0_1 j (by omega)))] | skip
    exact ⟨_, _, rfl, .cell (i := 0) rfl rfl (Uu 30) rfl (Uz 30) (arr_size _ _ _), .tmp rfl⟩
set_option maxHeartbeats 4000000 in
theorem knows1_fn (rp ra rb : Nat) (base : List Nat) (late : Bool) (vp v0 v1 vt : Value) (a c b d : Nat → Nat) (ha : B32 b) (q : List Nat) (hv : Shows G 1 v1 q.length ((ci q).map iv)) (hz : q.length ≤ 1000000) : Fn Tryz.prog ((⟨rp, patC base late vp v0 v1 vt, 29⟩ : Blk) :: (⟨ra, arr .u8 64 (sdF a c), 54⟩ : Blk) :: (⟨rb, arr .u8 64 (sdF b d), 54⟩ : Blk) :: G) 51 #[ii 1, ptr rp, ptr ra, ptr rb] (.tuple #[.agg (arr .u8 32 (if 2 ∈ q then pubK b else fun _ => 0)), .bool (decide (2 ∈ q))]) := by
  have hv9 : Shows ((⟨rp, patC base late vp v0 v1 vt, 29⟩ : Blk) :: (⟨ra, arr .u8 64 (sdF a c), 54⟩ : Blk) :: (⟨rb, arr .u8 64 (sdF b d), 54⟩ : Blk) :: G) 1 v1 q.length ((ci q).map iv) := hv.mono fun x hx => List.mem_cons_of_mem _ (List.mem_cons_of_mem _ (List.mem_cons_of_mem _ hx))
  refine Qf2 Tryz.func51 ?_
  refine Qs<|Qp<|(QH 0) fun r1=>(Qa)<|Qn<|Qs<|Qs<|Qp<|(Qm)<|(Qf 3)<|(QB 4) ?_
  refine e_load1g (i := 0) (Uu 25) rfl rfl rfl (show _ = some v1 from rfl) rfl ?_
  refine (QC hv9)<|(Qm)<|Qn<|Qb ?_
  refine QzK [(0, _), (2, _), (3, _), (5, _), (12, _), (13, _)] [(0, _)] (fun kk E m => ∃ (i : Nat), kk = q.length - i ∧ E = [(14, ii i)] ∧ m = [] ∧ (i ≤ q.length) ∧ (∀ j, j < i → q.getD j 0 ≠ 2)) ⟨0, rfl, rfl, rfl, by omega, fun _ h => absurd h (Nat.not_lt_zero _)⟩ ⟨rfl, rfl, rfl, rfl, rfl, rfl, rfl, trivial⟩ ⟨rfl, trivial⟩ ?_
  rintro kk E m ⟨i, rfl, rfl, rfl, hf0_0, hf0_1⟩
  simp only [catE, catL]
  refine Qs<|Qp<|(Ql)<|Qn<|Qs ?_
  refine e_cond rfl ?_ ?_
  · intro hc0
    have hc0 : i < q.length := by have := of_decide_eq_true hc0; omega
    refine Qk<|Qs<|Qb<|Qs<|Qp ?_
    refine e_atV hv9 (Uu 25) (Uz 3) rfl rfl (by omega) rfl ?_
    refine (QS) ?_
    refine e_loadV hv9 seenG (Uu 3) rfl rfl (ci_at (by omega)) rfl ?_
    refine e_as (show _ = ii (q.getD i 0) from rfl) ?_
    refine (Qa)<|Qn<|Qs<|Qp<|(Qm)<|(Qc)<|Qn ?_
    refine e_cond rfl ?_ ?_
    · intro hc1
      have h2 : 2 ∈ q := two_in (by omega) (of_decide_eq_true hc1)
      rw [if_pos h2, decide_eq_true h2]
      refine Qs<|Qp ?_
      refine e_loadAg (i := 1) (Uu 54) rfl (Uz 54) rfl rfl (arr_size _ _ _) rfl ?_
      refine e_loadAg (i := 2) (Uu 54) rfl (Uz 54) rfl rfl (arr_size _ _ _) rfl ?_
      refine e_buildSl 1 (arr .u8 128 (sdG a c b d)) (Uu 91 rfl) (Uz 54 rfl) (Ub 54 rfl) (by decide) (by decide) rfl (by kernel_rfl) rfl fun r2 => ?_
      refine (Qm) ?_
      refine e_atSl (64) (Uu 91) (Uz 54) rfl rfl (by omega) (by omega) rfl ?_
      refine (Qf 64) ?_
      refine e_loadS (i := 1) (Uu 30) rfl (Uz 30) rfl rfl (by omega) rfl ⟨[], trivial⟩ ?_
      refine e_as (show _ = Value.agg (arr .u8 32 b) from congrArg Value.agg (arr_congr fun j hj => sd_b hj)) ?_
      refine e_call rfl (Un 22) (lbase_fn b ha) rfl rfl ?_
      refine e_as (show _ = Value.agg (arr .u8 32 (pubK b)) from rfl) ?_
      refine (Qt 0)<|(Qa)<|Qn<|Qr ?_
      first | rw [if_neg (two_none (fun j hj => hf0_1 j (by omega))), decide_eq_false (two_none (fun j hj => hf0_1 j (by omega)))] | skip
      exact ⟨_, _, rfl, .cell (i := 0) rfl rfl (Uu 30) rfl (Uz 30) (arr_size _ _ _), .tmp rfl⟩
    · intro hc1
      have hcf : q.getD i 0 ≠ 2 := fun h => of_decide_eq_false hc1 (by omega)
      refine Qk<|Qp<|(Q2 1)<|(Qm)<|Qn ?_
      refine QzL ⟨i + 1, rfl, rfl, rfl, by omega, fun j hj => by by_cases e : j = i; (subst e; exact hcf); exact hf0_1 j (by omega)⟩ ⟨rfl, rfl, rfl, rfl, rfl, rfl, rfl, trivial⟩ ⟨rfl, trivial⟩ ?_
      omega
  · intro hc0
    have hc0 := of_decide_eq_false hc0
    have hz0 : i = q.length := by omega
    refine Qe<|Qs<|Qp ?_
    refine e_build0 (Ub 30 rfl) (Uu 30 rfl) sis5 rfl ?_
    refine (Qt 0)<|(Qa)<|Qn<|Qr ?_
    first | rw [if_neg (two_none (fun j hj => hf0_1 j (by omega))), decide_eq_false (two_none (fun j hj => hf0_1 j (by omega)))] | skip
    exact ⟨_, _, rfl, .cell (i := 0) rfl rfl (Uu 30) rfl (Uz 30) (arr_size _ _ _), .tmp rfl⟩
end Go.Proofs.YthljakcegoohlaaGreatDoor
namespace Go.Proofs.YthljakcegoohlaaGreatDoor
open Go Go.RowKit
variable {G : Mem}
set_option maxRecDepth 20000 in
set_option maxHeartbeats 8000000 in
theorem two_fn (hO : DOR ∈ G) (base : List Nat) (late : Bool) (vp v0 v1 vt : Value) (a c b d : Nat → Nat) (ha : B32 a) (hb : B32 b) (vk : Value) (ps : List (Nat → Nat)) (hk : Shows G 32 vk ps.length (psC ps)) (pv : Value) (pl : List Nat) (hpv : Sh G pv pl) (hpb : ∀ x ∈ pl, x < 256) (hpl : pl.length ≤ 200) (qs : List Int) (q0 q1 : List Nat) (us : List (List Nat)) (hv0 : Shows G 1 v0 q0.length ((ci q0).map iv)) (hv1 : Shows G 1 v1 q1.length ((ci q1).map iv)) (hps : ps.length = qs.length) (hp4 : ps.length ≤ 4) (hqq : q0.length ≤ 1000 ∧ q1.length ≤ 1000) (ht0 : ∀ x ∈ q0, x = 1 ∨ x = 2) (ht1 : ∀ x ∈ q1, x = 1 ∨ x = 2) (nm : List Nat) (hnb : ∀ x ∈ nm, x < 256) (hnl : nm.length ≤ 1000000) (hSh : Fn Tryz.prog G 50 #[.agg (patC base late vp v0 v1 vt)] (.tuple #[sv nm, ii 0])) (hPar : Fx Tryz.prog G [] 24 #[sv nm] (fun v l1 nw => l1 = [] ∧ ∃ w', v = .tuple #[w', ii 0] ∧ PatIsI base late qs q0 q1 us w' nw)) (zx zy : SY × RS) (hzx : aheadP true a (fun _ => 0) (npk ps) q0 q1 ((hashP (begY nm) pl), ((fun _ => 0), false, (if 2 ∈ q1 then pubK b else fun _ => 0), (decide (2 ∈ q1)), (fun _ => 0), false)) = zx) (hzy : aheadP false b (fun _ => 0) (npk ps) q0 q1 ((hashP (begY nm) pl), ((fun _ => 0), false, (if 2 ∈ q0 then pubK a else fun _ => 0), (decide (2 ∈ q0)), (fun _ => 0), false)) = zy) : Fx Tryz.prog G [] 17 #[.agg (patC base late vp v0 v1 vt), .agg (arr .u8 64 (sdF a c)), .agg (arr .u8 64 (sdF b d)), vk, pv] (fun v l1 nw => l1 = [] ∧ TwoIs base late qs q0 q1 us ps a b zx zy v nw) := by
  have hthx : B32 (if 2 ∈ q1 then pubK b else fun _ => 0) := by split; exact pubK_lt b; exact zeros32
  have hthy : B32 (if 2 ∈ q0 then pubK a else fun _ => 0) := by split; exact pubK_lt a; exact zeros32
  refine fxD3 (n := 74) Tryz.func17 rfl rfl (by simp) (argE [.agg (patC base late vp v0 v1 vt), .agg (arr .u8 64 (sdF a c)), .agg (arr .u8 64 (sdF b d)), vk, pv] 0) (argE_ok _) ?_
  refine Qs<|Qp<|(Qh 0) fun r1=>(Qh 1) fun r2=>(Qh 2) fun r3=>(QH 3) fun r4=>(QH 4) fun r5=>(Qa)<|Qn<|Qs<|Qp<|(QD 0) ?_
  refine e_call rfl (Un 50) hSh rfl rfl ?_
  refine (Qm)<|(Qx)<|(Qx)<|(Qa)<|(Qa)<|Qn<|Qs<|Qp<|(QY)<|(Qa)<|Qn<|Qs<|Qp<|(Qm) ?_
  refine e_callS rfl rfl (Un 51) (seen_app (A := [_]) (seen1 0 rfl ⟨[], trivial⟩) (seen_app (A := [_]) (seen1 1 rfl ⟨[], trivial⟩) (seen_app (A := [_]) (seen1 2 rfl ⟨[], trivial⟩) seenG))) (knows1_fn r1 r2 r3 base late vp v0 v1 vt a c b d hb q1 hv1 (by omega)) rfl rfl ?_
  refine (Qm)<|(Qx)<|(Qx)<|(QH 5) fun r6=>(Qt 5)<|(Qa)<|Qn<|Qs<|QR ⟨[], 4, [], none⟩<|(Qm)<|(Qm)<|(Qf 0) ?_
  refine e_loadS (i := 1) (Uu 30) rfl (Uz 30) rfl rfl (by omega) rfl ⟨[], trivial⟩ ?_
  refine e_as (show _ = Value.agg (arr .u8 32 a) from congrArg Value.agg (arr_congr fun j hj => sdF_0 hj)) ?_
  refine (Qd 5)<|(Qm) ?_
  refine e_build0 (Ub 30 rfl) (Uu 30 rfl) sis5 rfl ?_
  refine (Qm) ?_
  refine e_callD [(0, _), (1, _), (2, _), (3, _), (4, _), (5, _)] (by repeat (first | exact bag_nil | exact bag_lab _ | apply bag_skip rfl)) ⟨rfl, rfl, rfl, rfl, rfl, rfl, trivial⟩ rfl rfl rfl (Un 8) seenG (begin_ok hO nm hnb hnl true pv pl hpv hpb hpl a (if 2 ∈ q1 then pubK b else fun _ => 0) ha hthx (decide (2 ∈ q1)) (fun h => by rw [if_neg (of_decide_eq_false h)]; decide) (fun _ => 0) zeros32 vk ps hk base late qs q0 q1 us hps hp4 hqq ht0 ht1 (kn_one) hPar zx hzx) (beg_room base late qs (ci q0) (ci q1) (us.map ci) ps true 0 false zx.1 a zx.2 0) rfl rfl fun v1_1 nw1_1 hD1_1 => ?_
  simp only [catL]
  obtain ⟨_, rfl, P1, A1, B1, T1, K1, l1, rfl, hP1, hT1, hL1, hK1, h11⟩ := hD1_1
  refine (Qm)<|(Qx)<|(Qx)<|(QH 6) fun r7=>?_
  refine e_storeA (i := 6) (Uz 37) rfl rfl (arrv_size _ _) (cells_one ⟨fun _ => rfl, fun _ => rfl, fun _ => h11.1, fun _ => h11.2.1, fun _ => h11.2.2.1, fun _ => h11.2.2.2.1, fun _ => rfl, fun _ => rfl, fun _ => rfl, fun _ => rfl, fun _ => rfl, fun _ => rfl, fun _ => rfl, fun _ => rfl, fun _ => rfl, fun _ => rfl, fun _ => rfl, fun _ => rfl, fun _ => rfl, fun _ => rfl, fun _ => rfl, fun _ => h11.2.2.2.2, fun _ => rfl, trivial⟩) rfl cells_sz (.inl rfl) ?_
  refine (Qa)<|Qn<|Qs<|Qp<|(Qm) ?_
  refine e_callS rfl rfl (Un 51) (seen_app (A := [_]) (seen1 0 rfl ⟨[], trivial⟩) (seen_app (A := [_]) (seen1 1 rfl ⟨[], trivial⟩) (seen_app (A := [_]) (seen1 2 rfl ⟨[], trivial⟩) seenG))) (knows0_fn r1 r2 r3 base late vp v0 v1 vt a c b d ha q0 hv0 (by omega)) rfl rfl ?_
  refine (Qm)<|(Qx)<|(Qx)<|(Qt 5)<|(Qa)<|Qn<|Qs<|QR ⟨[], 4, [], none⟩<|(Qm)<|(Qm)<|(Qf 0) ?_
  refine e_loadS (i := 2) (Uu 30) rfl (Uz 30) rfl rfl (by omega) rfl ⟨[], trivial⟩ ?_
  refine e_as (show _ = Value.agg (arr .u8 32 b) from congrArg Value.agg (arr_congr fun j hj => sdF_0 hj)) ?_
  refine (Qd 5)<|(Qm) ?_
  refine e_build0 (Ub 30 rfl) (Uu 30 rfl) sis5 rfl ?_
  refine (Qm) ?_
  refine e_callD [(0, _), (1, _), (2, _), (3, _), (4, _), (5, _), (6, _)] (by repeat (first | exact bag_nil | exact bag_lab _ | apply bag_skip rfl)) ⟨rfl, rfl, rfl, rfl, rfl, rfl, rfl, trivial⟩ rfl rfl rfl (Un 8) seenG (begin_ok hO nm hnb hnl false pv pl hpv hpb hpl b (if 2 ∈ q0 then pubK a else fun _ => 0) hb hthy (decide (2 ∈ q0)) (fun h => by rw [if_neg (of_decide_eq_false h)]; decide) (fun _ => 0) zeros32 vk ps hk base late qs q0 q1 us hps hp4 hqq ht0 ht1 (kn_two) hPar zy hzy) (beg_room base late qs (ci q0) (ci q1) (us.map ci) ps false 0 false zy.1 b zy.2 0) rfl rfl fun v1_2 nw1_2 hD1_2 => ?_
  simp only [catL]
  obtain ⟨_, rfl, P2, A2, B2, T2, K2, l2, rfl, hP2, hT2, hL2, hK2, h12⟩ := hD1_2
  refine (Qm)<|(Qx)<|(Qx)<|(QH 7) fun r8=>?_
  refine e_storeA (i := 7) (Uz 37) rfl rfl (arrv_size _ _) (cells_one ⟨fun _ => rfl, fun _ => rfl, fun _ => h12.1, fun _ => h12.2.1, fun _ => h12.2.2.1, fun _ => h12.2.2.2.1, fun _ => rfl, fun _ => rfl, fun _ => rfl, fun _ => rfl, fun _ => rfl, fun _ => rfl, fun _ => rfl, fun _ => rfl, fun _ => rfl, fun _ => rfl, fun _ => rfl, fun _ => rfl, fun _ => rfl, fun _ => rfl, fun _ => rfl, fun _ => h12.2.2.2.2, fun _ => rfl, trivial⟩) rfl cells_sz (.inl rfl) ?_
  refine (Qa)<|Qn<|Qs<|(Qq ⟨[r4, r5], 1, [], none⟩) ?_
  refine e_loadA (i := 6) (Uu 37) rfl (Uz 37) rfl rfl (arrv_size _ _) rfl ⟨[3, 4], rfl, rfl, rfl, rfl, trivial⟩ ?_
  refine e_loadA (i := 7) (Uu 37) rfl (Uz 37) rfl rfl (arrv_size _ _) rfl ⟨[3, 4], rfl, rfl, rfl, rfl, trivial⟩ ?_
  refine (Qm)<|(Qc)<|(Qar)<|(Qm)<|(Qy)<|(Qm)<|(Qy)<|(Qc)<|(Qar)<|(QT)<|(Qm)<|(Qy)<|(Qm)<|(Qy)<|(Qc)<|(Qar)<|(QT) ?_
  refine e_storeA (i := 3) (Uz 37) rfl rfl (arrv_size _ _) (cells_one ⟨fun _ => rfl, fun _ => rfl, fun _ => h11.1, fun _ => h11.2.1, fun _ => h11.2.2.1, fun _ => h11.2.2.2.1, fun _ => rfl, fun _ => rfl, fun _ => rfl, fun _ => rfl, fun _ => rfl, fun _ => rfl, fun _ => rfl, fun _ => rfl, fun _ => rfl, fun _ => rfl, fun _ => rfl, fun _ => rfl, fun _ => rfl, fun _ => rfl, fun _ => rfl, fun _ => h11.2.2.2.2, fun _ => rfl, trivial⟩) rfl cells_sz (.inr (by simp)) ?_
  refine e_storeA (i := 4) (Uz 37) rfl rfl (arrv_size _ _) (cells_one ⟨fun _ => rfl, fun _ => rfl, fun _ => h12.1, fun _ => h12.2.1, fun _ => h12.2.2.1, fun _ => h12.2.2.2.1, fun _ => rfl, fun _ => rfl, fun _ => rfl, fun _ => rfl, fun _ => rfl, fun _ => rfl, fun _ => rfl, fun _ => rfl, fun _ => rfl, fun _ => rfl, fun _ => rfl, fun _ => rfl, fun _ => rfl, fun _ => rfl, fun _ => rfl, fun _ => h12.2.2.2.2, fun _ => rfl, trivial⟩) rfl cells_sz (.inr (by simp)) ?_
  refine (Qa)<|Qn<|Qr ?_
  exact ⟨_, _, _, _, _, _, (([] ++ nw1_1) ++ nw1_2), rfl, .cell (i := 3) rfl rfl (Uu 37) rfl (Uz 37) (arrv_size _ _), .cell (i := 4) rfl rfl (Uu 37) rfl (Uz 37) (arrv_size _ _), .tmp rfl, ⟨_, _, rfl, copy_mono ⟨P1, A1, B1, T1, K1, l1, rfl, hP1, hT1, hL1, hK1, h11⟩ (fun x hx => by simp [hx]), copy_mono ⟨P2, A2, B2, T2, K2, l2, rfl, hP2, hT2, hL2, hK2, h12⟩ (fun x hx => by simp [hx])⟩, (by repeat (first | exact bag_nil | exact bag_lab _ | apply bag_skip rfl))⟩
end Go.Proofs.YthljakcegoohlaaGreatDoor
namespace Go.Proofs.YthljakcegoohlaaGreatDoor
open Go Go.RowKit
theorem symBothD {G : Mem} (hO : DOR ∈ G) (y : SY) (hy : okY y) (v : Value) (l : List Nat) (hv : Shows G 1 v l.length (l.map by8)) (hb : ∀ b ∈ l, b < 256) (hz : l.length ≤ 1000000) : Fn Tryz.prog G 213 #[SVy y, v] (SVy (mixP y l)) := by
  have h := (dboth9_fn (G := G) y.1 y.2.1 y.2.2.1 y.2.2.2.1 y.2.2.2.2 v l (hv.mono fun _ h => List.mem_cons_of_mem _ h) hb hy.2.2.1 hy.2.2.2 (by omega)).more (in1 hO)
  unfold mixP
  generalize hx y.2.2.2.2 (ky (kB y.2.2.2.1 l)) = fh at h ⊢
  generalize kC y.2.2.2.1 l = fc at h ⊢
  generalize kA y.2.2.2.1 l = fa at h ⊢
  exact h
variable {G : Mem}
set_option maxHeartbeats 400000 in
theorem dlet_fn (t : Nat) : Fn Tryz.prog G 214 #[ii t] (.tuple #[ii (letA t), ii (letB t)]) := by
  refine Qf2 Tryz.func214 ?_
  refine Qs<|Qp<|(Qa)<|(Qa)<|Qn<|Qs<|Qs<|Qp<|(Qm)<|Qn<|Qb<|Qs<|Qp<|(Qc)<|(Qa)<|Qn ?_
  refine e_cond rfl ?_ ?_
  · intro hc0
    obtain rfl : t = 3 := by have := of_decide_eq_true hc0; omega
    refine Qs<|Qp<|(Qa)<|(Qa)<|Qn<|Qr ?_
    first | (rw [show letA t = 2 by unfold letA; rw [if_neg hn0, if_neg hn1], show letB t = 2 by unfold letB; rw [if_neg hn0, if_neg hn1, if_neg hn2]]) | skip
    exact ⟨_, _, rfl, .tmp rfl, .tmp rfl⟩
  · intro hc0
    have hn0 : ¬ t = 3 := by have := of_decide_eq_false hc0; omega
    refine Qs<|Qp<|(Qc)<|(Qa)<|Qn ?_
    refine e_cond rfl ?_ ?_
    · intro hc1
      obtain rfl : t = 4 := by have := of_decide_eq_true hc1; omega
      refine Qs<|Qp<|(Qa)<|(Qa)<|Qn<|Qr ?_
      first | (rw [show letA t = 2 by unfold letA; rw [if_neg hn0, if_neg hn1], show letB t = 2 by unfold letB; rw [if_neg hn0, if_neg hn1, if_neg hn2]]) | skip
      exact ⟨_, _, rfl, .tmp rfl, .tmp rfl⟩
    · intro hc1
      have hn1 : ¬ t = 4 := by have := of_decide_eq_false hc1; omega
      refine Qs<|Qp<|(Qc)<|(Qa)<|Qn ?_
      refine e_cond rfl ?_ ?_
      · intro hc2
        obtain rfl : t = 5 := by have := of_decide_eq_true hc2; omega
        refine Qs<|Qp<|(Qa)<|(Qa)<|Qn<|Qr ?_
        first | (rw [show letA t = 2 by unfold letA; rw [if_neg hn0, if_neg hn1], show letB t = 2 by unfold letB; rw [if_neg hn0, if_neg hn1, if_neg hn2]]) | skip
        exact ⟨_, _, rfl, .tmp rfl, .tmp rfl⟩
      · intro hc2
        have hn2 : ¬ t = 5 := by have := of_decide_eq_false hc2; omega
        refine Qk<|Qs<|Qp<|(Qa)<|(Qa)<|Qn<|Qr ?_
        first | (rw [show letA t = 2 by unfold letA; rw [if_neg hn0, if_neg hn1], show letB t = 2 by unfold letB; rw [if_neg hn0, if_neg hn1, if_neg hn2]]) | skip
        exact ⟨_, _, rfl, .tmp rfl, .tmp rfl⟩
set_option maxHeartbeats 2000000 in
theorem secretOf_fn (b : List Nat) (l : Bool) (vp v0 v1 vt : Value) (fi : Bool) (tn : Int) (dd : Bool) (y : SY) (r : RS) (ow : Nat → Nat) (vk : Value) (us : Int) (x : Nat) : Fn Tryz.prog G 215 #[.agg (shC b l vp v0 v1 vt fi tn dd y ow r vk us), ii x] (.tuple #[.agg (arr .u8 32 (if x = 1 then r.1 else ow)), .bool (if x = 1 then r.2.1 else true)]) := by
  refine Qf2 Tryz.func215 ?_
  refine Qs<|Qp<|(Qh 0) fun r1=>(QH 1) fun r2=>(Qa)<|Qn<|Qs<|Qs<|Qp<|(Qm)<|(Qc)<|Qn ?_
  refine e_cond rfl ?_ ?_
  · intro hc0
    have hx : x = 1 := by have := of_decide_eq_true hc0; omega
    rw [if_pos hx, if_pos hx]
    refine Qs<|(Qq ⟨[r2], 1, [], none⟩)<|(Qf 139) ?_
    refine e_ldC (i := 0) 15 (Uu 30) rfl (Uz 30) rfl rfl rfl (by decide) rfl ⟨[1], rfl, rfl, trivial⟩ ?_
    refine (Qf 171) ?_
    refine e_ldV1 (i := 0) 16 (Uu 4) rfl rfl rfl rfl (by decide) rfl ⟨[1], rfl, rfl, trivial⟩ ?_
    refine e_storeA (i := 1) (Uz 30) rfl rfl (arr_size _ _ _) arr_one rfl (arr_sz _ _ _ _ _) (.inr (by simp)) ?_
    refine (Qa)<|Qn<|Qr ?_
    exact ⟨_, _, rfl, .cell (i := 1) rfl rfl (Uu 30) rfl (Uz 30) (arr_size _ _ _), .tmp rfl⟩
  · intro hc0
    have hx : ¬ x = 1 := by have := of_decide_eq_false hc0; omega
    rw [if_neg hx, if_neg hx]
    refine Qk<|Qs<|Qp<|(Qf 107)<|(Qv 14 0)<|(Qt 1)<|(Qa)<|Qn<|Qr ?_
    exact ⟨_, _, rfl, .cell (i := 1) rfl rfl (Uu 30) rfl (Uz 30) (arr_size _ _ _), .tmp rfl⟩
set_option maxHeartbeats 2000000 in
theorem publicOf_fn (b : List Nat) (l : Bool) (vp v0 v1 vt : Value) (fi : Bool) (tn : Int) (dd : Bool) (y : SY) (r : RS) (ow : Nat → Nat) (vk : Value) (us : Int) (x : Nat) : Fn Tryz.prog G 216 #[.agg (shC b l vp v0 v1 vt fi tn dd y ow r vk us), ii x] (.tuple #[.agg (arr .u8 32 (if x = 1 then r.2.2.2.2.1 else r.2.2.1)), .bool (if x = 1 then r.2.2.2.2.2 else r.2.2.2.1)]) := by
  refine Qf2 Tryz.func216 ?_
  refine Qs<|Qp<|(Qh 0) fun r1=>(QH 1) fun r2=>(Qa)<|Qn<|Qs<|Qs<|Qp<|(Qm)<|(Qc)<|Qn ?_
  refine e_cond rfl ?_ ?_
  · intro hc0
    have hx : x = 1 := by have := of_decide_eq_true hc0; omega
    rw [if_pos hx, if_pos hx]
    refine Qs<|(Qq ⟨[r2], 1, [], none⟩)<|(Qf 205) ?_
    refine e_ldC (i := 0) 19 (Uu 30) rfl (Uz 30) rfl rfl rfl (by decide) rfl ⟨[1], rfl, rfl, trivial⟩ ?_
    refine (Qf 237) ?_
    refine e_ldV1 (i := 0) 20 (Uu 4) rfl rfl rfl rfl (by decide) rfl ⟨[1], rfl, rfl, trivial⟩ ?_
    refine e_storeA (i := 1) (Uz 30) rfl rfl (arr_size _ _ _) arr_one rfl (arr_sz _ _ _ _ _) (.inr (by simp)) ?_
    refine (Qa)<|Qn<|Qr ?_
    exact ⟨_, _, rfl, .cell (i := 1) rfl rfl (Uu 30) rfl (Uz 30) (arr_size _ _ _), .tmp rfl⟩
  · intro hc0
    have hx : ¬ x = 1 := by have := of_decide_eq_false hc0; omega
    rw [if_neg hx, if_neg hx]
    refine Qk<|Qs<|(Qq ⟨[r2], 1, [], none⟩)<|(Qf 172) ?_
    refine e_ldC (i := 0) 17 (Uu 30) rfl (Uz 30) rfl rfl rfl (by decide) rfl ⟨[1], rfl, rfl, trivial⟩ ?_
    refine (Qf 204) ?_
    refine e_ldV1 (i := 0) 18 (Uu 4) rfl rfl rfl rfl (by decide) rfl ⟨[1], rfl, rfl, trivial⟩ ?_
    refine e_storeA (i := 1) (Uz 30) rfl rfl (arr_size _ _ _) arr_one rfl (arr_sz _ _ _ _ _) (.inr (by simp)) ?_
    refine (Qa)<|Qn<|Qr ?_
    exact ⟨_, _, rfl, .cell (i := 1) rfl rfl (Uu 30) rfl (Uz 30) (arr_size _ _ _), .tmp rfl⟩
set_option maxHeartbeats 4000000 in
theorem mixPsk_fn (hO : DOR ∈ G) (b : List Nat) (l : Bool) (vp v0 v1 vt : Value) (fi : Bool) (tn : Int) (dd : Bool) (y : SY) (r : RS) (ow : Nat → Nat) (vk : Value) (us : Nat) (ps : List (Nat → Nat)) (hk : Shows G 32 vk ps.length (psC ps)) (hp : okP ps) (h1 : ones vp v0 v1 vt vk) (hy : okY y) (hr : okR r) (ho : B32 ow) (w : Nat × SS) (hw : bothT fi ow ps 7 (y, r, us) = w) : Fn Tryz.prog G 164 #[.agg (shC b l vp v0 v1 vt fi tn dd y ow r vk ((us : Nat) : Int))] (.tuple #[.agg (shC b l vp v0 v1 vt fi tn dd w.2.1 ow w.2.2.1 vk ((w.2.2.2 : Nat) : Int)), ii w.1]) := by
  have hpl := hp.2
  have _u1 := hr
  have _u2 := ho
  refine Qf2 Tryz.func164 ?_
  refine Qs<|Qp<|(Qh 0) fun r1=>(QH 1) fun r2=>(Qa)<|Qn<|Qs<|Qs<|Qp<|(Qf 239)<|(QV 22 0)<|(Qf 238)<|(QV 21 0)<|(QC hk)<|(QE)<|Qn ?_
  refine e_cond rfl ?_ ?_
  · intro hc0
    have hc0 := of_decide_eq_true hc0
    obtain rfl : w = (5, (y, r, us)) := by rw [← hw]; exact both_psk_no (by omega)
    refine Qs<|Qp<|(QD 0) ?_
    refine e_storeA (i := 1) (Uz 37) rfl rfl (arrv_size _ _) (cells_one ⟨fun _ => rfl, fun _ => rfl, fun _ => h1.1, fun _ => h1.2.1, fun _ => h1.2.2.1, fun _ => h1.2.2.2.1, fun _ => rfl, fun _ => rfl, fun _ => rfl, fun _ => rfl, fun _ => rfl, fun _ => rfl, fun _ => rfl, fun _ => rfl, fun _ => rfl, fun _ => rfl, fun _ => rfl, fun _ => rfl, fun _ => rfl, fun _ => rfl, fun _ => rfl, fun _ => h1.2.2.2.2, fun _ => rfl, trivial⟩) rfl cells_sz (.inl rfl) ?_
    refine (Qa)<|Qn<|Qr ?_
    exact ⟨_, _, rfl, .cell (i := 1) rfl rfl (Uu 37) rfl (Uz 37) (arrv_size _ _), .tmp rfl⟩
  · intro hc0
    have hc0 := of_decide_eq_false hc0
    obtain ⟨y2, hy2⟩ : ∃ y2, y2 = mixP y (ky (pskAt ps us)) := ⟨_, rfl⟩
    obtain rfl : w = (0, y2, r, us + 1) := by rw [← hw, hy2]; exact both_psk (by omega)
    refine Qk<|Qs<|Qp<|(Qf 238)<|(QV 21 0)<|(Qf 239)<|(QV 22 0) ?_
    refine e_atV hk (Uu 24) (Uz 30) rfl rfl (by omega) rfl ?_
    refine e_loadVS hk seenG (Uu 30) rfl (Uz 30) rfl (by decide) (by rw [flatMap_len keyC_len]; omega) (psC_at (by omega)) rfl ?_
    refine e_as (congrArg Value.agg (keyC_arr _)) ?_
    refine (QH 2) fun r3=>(Qt 2)<|Qn<|Qs<|(Qg)<|(Qf 9) ?_
    refine e_ldK (i := 0) 9 5 (Uu 35 rfl) rfl (Uz 35 rfl) rfl rfl rfl rfl (by decide) rfl ⟨[], trivial⟩ ?_
    refine e_as (show _ = SVy y from rfl) ?_
    refine e_sliceA 0 32 (Uu 30) (Uz 5) rfl rfl rfl rfl rfl (by omega) (by omega) (by omega) rfl ?_
    refine e_callS rfl rfl (Un 213) (seen_app seenG (seen1 2 rfl ⟨[], trivial⟩)) (symBothD (G := G ++ [(⟨r3, arr .u8 32 (pskAt ps us), 30⟩ : Blk)]) (List.mem_append_left _ hO) y hy _ (ky (pskAt ps us)) ((shows32 _ (pskAt ps us) _).mono (fun x h => List.mem_append_right _ h)) (ky_lt (pskAt_lt hp (by omega))) (by simp)) rfl rfl ?_
    refine e_as (congrArg SVy hy2.symm) ?_
    refine (Qf 9) ?_
    refine e_stK (i := 0) 9 5 (Uz 35 rfl) rfl rfl ⟨fun _ => rfl, fun _ => rfl, fun _ => rfl, fun _ => rfl, fun _ => rfl, trivial⟩ rfl rfl rfl rfl (by decide) (.inl rfl) ?_
    refine e_blk (c' := shC b l vp v0 v1 vt fi tn dd y2 ow r vk ((us : Nat) : Int)) rfl ?_
    refine Qn<|Qs<|Qp<|(Qf 239)<|(QV 22 0)<|(Q2 1)<|(Qf 239) ?_
    refine e_stV (i := 0) 22 (Uz 3) rfl rfl rfl rfl rfl (by decide) (.inl rfl) ?_
    refine e_blk (c' := shC b l vp v0 v1 vt fi tn dd y2 ow r vk ((us + 1 : Nat) : Int)) rfl ?_
    refine Qn<|Qs<|Qp<|(QD 0) ?_
    refine e_storeA (i := 1) (Uz 37) rfl rfl (arrv_size _ _) (cells_one ⟨fun _ => rfl, fun _ => rfl, fun _ => h1.1, fun _ => h1.2.1, fun _ => h1.2.2.1, fun _ => h1.2.2.2.1, fun _ => rfl, fun _ => rfl, fun _ => rfl, fun _ => rfl, fun _ => rfl, fun _ => rfl, fun _ => rfl, fun _ => rfl, fun _ => rfl, fun _ => rfl, fun _ => rfl, fun _ => rfl, fun _ => rfl, fun _ => rfl, fun _ => rfl, fun _ => h1.2.2.2.2, fun _ => rfl, trivial⟩) rfl cells_sz (.inl rfl) ?_
    refine (Qa)<|Qn<|Qr ?_
    exact ⟨_, _, rfl, .cell (i := 1) rfl rfl (Uu 37) rfl (Uz 37) (arrv_size _ _), .tmp rfl⟩
set_option maxHeartbeats 4000000 in
theorem mixKeys_true (hO : DOR ∈ G) (b : List Nat) (l : Bool) (vp v0 v1 vt : Value) (tn : Int) (dd : Bool) (y : SY) (r : RS) (ow : Nat → Nat) (vk : Value) (us : Nat) (ps : List (Nat → Nat)) (hk : Shows G 32 vk ps.length (psC ps)) (hp : okP ps) (h1 : ones vp v0 v1 vt vk) (hy : okY y) (hr : okR r) (ho : B32 ow) (t : Nat) (h3 : 3 ≤ t) (h6 : t ≤ 6) (w : Nat × SS) (hw : bothT true ow ps t (y, r, us) = w) : Fn Tryz.prog G 165 #[.agg (shC b l vp v0 v1 vt true tn dd y ow r vk ((us : Nat) : Int)), ii t] (.tuple #[.agg (shC b l vp v0 v1 vt true tn dd w.2.1 ow w.2.2.1 vk ((w.2.2.2 : Nat) : Int)), ii w.1]) := by
  have _u1 := hk
  have _u2 := hp
  obtain ⟨fs, hfs⟩ : ∃ z, z = secT true ow r t := ⟨_, rfl⟩
  obtain ⟨fp, hfp⟩ : ∃ z, z = pubT true r t := ⟨_, rfl⟩
  obtain ⟨bs, hbs⟩ : ∃ z, z = hasT true r t := ⟨_, rfl⟩
  obtain ⟨bw, hbw⟩ : ∃ z, z = sawT true r t := ⟨_, rfl⟩
  have hls : B32 fs := by rw [hfs]; exact secT_lt ho hr
  have hlp : B32 fp := by rw [hfp]; exact pubT_lt hr
  obtain ⟨mk, hmk⟩ : ∃ z, z = mulK fs fp := ⟨_, rfl⟩
  have h7 : t ≠ 7 := by omega
  have hN : (bs && bw) = false → w = (5, (y, r, us)) := fun h => by rw [← hw]; exact both_none h7 (by rw [← hbs, ← hbw]; exact h)
  have hZ : ¬ (bs && bw) = false → mk = 0 → w = (12, (y, r, us)) := fun h hz => by rw [← hw]; exact both_zero h7 (by rw [← hbs, ← hbw]; exact h) (by rw [← hfs, ← hfp, ← hmk]; exact hz)
  have hK : ¬ (bs && bw) = false → ¬ mk = 0 → w = (0, keyP y (ky (bt mk)), r, us) := fun h hz => by rw [← hw]; exact (both_ok h7 (by rw [← hbs, ← hbw]; exact h) (by rw [← hfs, ← hfp, ← hmk]; exact hz)).trans (by rw [← hfs, ← hfp, ← hmk])
  refine Qf2 Tryz.func165 ?_
  refine Qs<|Qp<|(Qh 0) fun r1=>(QH 1) fun r2=>(Qa)<|Qn<|Qs<|Qp<|(Qm) ?_
  refine e_call rfl (Un 214) (dlet_fn t) rfl rfl ?_
  refine (Qm)<|(Qx)<|(Qx)<|(Qa)<|(Qa)<|Qn<|Qs<|Qs<|Qp<|(Qf 6)<|(QV 6 0)<|(Q0)<|Qn<|(Qcf)<|Qk<|Qs<|Qp<|(QD 0)<|(Qm) ?_
  refine e_call rfl (Un 215) (secretOf_fn b l vp v0 v1 vt true tn dd y r ow vk us (letA t)) rfl rfl ?_
  refine e_as (show _ = Value.tuple #[.agg (arr .u8 32 fs), .bool bs] by rw [hfs, hbs, ← sec_eq (fi := true) h3 h6, ← has_eq (fi := true) h3 h6]; rfl) ?_
  refine (Qm)<|(Qx)<|(Qx)<|(QH 2) fun r3=>(Qt 2)<|(Qa)<|Qn<|Qs<|Qp<|(QD 0)<|(Qm) ?_
  refine e_call rfl (Un 216) (publicOf_fn b l vp v0 v1 vt true tn dd y r ow vk us (letB t)) rfl rfl ?_
  refine e_as (show _ = Value.tuple #[.agg (arr .u8 32 fp), .bool bw] by rw [hfp, hbw, ← pub_eq (fi := true) h3 h6, ← saw_eq (fi := true) h3 h6]; rfl) ?_
  refine (Qm)<|(Qx)<|(Qx)<|(QH 3) fun r4=>(Qt 3)<|(Qa)<|Qn<|Qs<|Qs<|Qp ?_
  refine e_join [(0, _), (1, _), (2, _), (4, _), (5, _), (6, _), (7, _), (8, _), (9, _), (10, _), (11, _), (14, _), (15, _), (16, _), (17, _), (18, _), (19, _), (20, _), (21, _), (24, _), (25, _), (26, _), (27, _), (28, _), (29, _), (30, _), (31, _), (32, _), (33, _), (34, _), (35, _)] [(41, .bool (!(bs && bw)))] [(0, some _), (1, some _), (2, some _), (3, some _)] ⟨rfl, rfl, rfl, rfl, rfl, rfl, rfl, rfl, rfl, rfl, rfl, rfl, rfl, rfl, rfl, rfl, rfl, rfl, rfl, rfl, rfl, rfl, rfl, rfl, rfl, rfl, rfl, rfl, rfl, rfl, rfl, trivial⟩ ⟨rfl, rfl, rfl, rfl, trivial⟩ ?_ ?_
  · skip
    refine (Qm)<|(Q0)<|(Qm) ?_
    refine e_case (b := (!bs)) (fun hb0 => ?_) (fun hb0 => ?_)
    · skip
      refine (Qo)<|(Qo)<|(QT)<|Qn ?_
      exact ⟨⟨rfl, rfl, rfl, rfl, rfl, rfl, rfl, rfl, rfl, rfl, rfl, rfl, rfl, rfl, rfl, rfl, rfl, rfl, rfl, rfl, rfl, rfl, rfl, rfl, rfl, rfl, rfl, rfl, rfl, rfl, rfl, trivial⟩, ⟨bool_fin (by rw [Bool.not_and, hb0] <;> rfl), trivial⟩, ⟨rfl, rfl, rfl, rfl, trivial⟩⟩
    · skip
      refine (Qy)<|(Qm)<|(Qy)<|(Q0)<|(QF)<|Qn ?_
      exact ⟨⟨rfl, rfl, rfl, rfl, rfl, rfl, rfl, rfl, rfl, rfl, rfl, rfl, rfl, rfl, rfl, rfl, rfl, rfl, rfl, rfl, rfl, rfl, rfl, rfl, rfl, rfl, rfl, rfl, rfl, rfl, rfl, trivial⟩, ⟨bool_fin (by rw [Bool.not_and, hb0] <;> rfl), trivial⟩, ⟨rfl, rfl, rfl, rfl, trivial⟩⟩
  · simp only [catE]
    refine e_cond rfl ?_ ?_
    · intro hc1
      have hn1 : (bs && bw) = false := not_t hc1
      obtain rfl := hN hn1
      refine Qs<|Qp<|(QD 0) ?_
      refine e_storeA (i := 1) (Uz 37) rfl rfl (arrv_size _ _) (cells_one ⟨fun _ => rfl, fun _ => rfl, fun _ => h1.1, fun _ => h1.2.1, fun _ => h1.2.2.1, fun _ => h1.2.2.2.1, fun _ => rfl, fun _ => rfl, fun _ => rfl, fun _ => rfl, fun _ => rfl, fun _ => rfl, fun _ => rfl, fun _ => rfl, fun _ => rfl, fun _ => rfl, fun _ => rfl, fun _ => rfl, fun _ => rfl, fun _ => rfl, fun _ => rfl, fun _ => h1.2.2.2.2, fun _ => rfl, trivial⟩) rfl cells_sz (.inl rfl) ?_
      refine (Qa)<|Qn<|Qr ?_
      exact ⟨_, _, rfl, .cell (i := 1) rfl rfl (Uu 37) rfl (Uz 37) (arrv_size _ _), .tmp rfl⟩
    · intro hc1
      have hn1 : ¬ (bs && bw) = false := not_f hc1
      refine Qk<|Qs<|Qp<|(Qd 2)<|(Qd 3) ?_
      refine e_call rfl (Un 54) (lmult_fn fs fp hls hlp) rfl rfl ?_
      refine e_as (show _ = Value.tuple #[Value.agg (arr .u8 32 (bt mk)), .bool (!decide (mk = 0))] by rw [hmk]; rfl) ?_
      refine (Qm)<|(Qx)<|(Qx)<|(QH 4) fun r5=>(Qt 4)<|(Qa)<|Qn<|Qs<|Qs<|Qp<|(Qm)<|(Q0)<|Qn ?_
      refine e_cond rfl ?_ ?_
      · intro hc2
        have hz1 : mk = 0 := by simpa using hc2
        obtain rfl := hZ hn1 hz1
        refine Qs<|Qp<|(QD 0) ?_
        refine e_storeA (i := 1) (Uz 37) rfl rfl (arrv_size _ _) (cells_one ⟨fun _ => rfl, fun _ => rfl, fun _ => h1.1, fun _ => h1.2.1, fun _ => h1.2.2.1, fun _ => h1.2.2.2.1, fun _ => rfl, fun _ => rfl, fun _ => rfl, fun _ => rfl, fun _ => rfl, fun _ => rfl, fun _ => rfl, fun _ => rfl, fun _ => rfl, fun _ => rfl, fun _ => rfl, fun _ => rfl, fun _ => rfl, fun _ => rfl, fun _ => rfl, fun _ => h1.2.2.2.2, fun _ => rfl, trivial⟩) rfl cells_sz (.inl rfl) ?_
        refine (Qa)<|Qn<|Qr ?_
        exact ⟨_, _, rfl, .cell (i := 1) rfl rfl (Uu 37) rfl (Uz 37) (arrv_size _ _), .tmp rfl⟩
      · intro hc2
        have hz1 : ¬ mk = 0 := by simpa using hc2
        obtain ⟨y2, hy2⟩ : ∃ y2, y2 = keyP y (ky (bt mk)) := ⟨_, rfl⟩
        obtain rfl : w = (0, y2, r, us) := by rw [hy2]; exact hK hn1 hz1
        refine Qk<|Qs<|(Qg)<|(Qf 9) ?_
        refine e_ldK (i := 0) 9 5 (Uu 35 rfl) rfl (Uz 35 rfl) rfl rfl rfl rfl (by decide) rfl ⟨[], trivial⟩ ?_
        refine e_as (show _ = SVy y from rfl) ?_
        refine e_sliceA 0 32 (Uu 30) (Uz 5) rfl rfl rfl rfl rfl (by omega) (by omega) (by omega) rfl ?_
        refine e_callS rfl rfl (Un 195) (seen_app seenG (seen1 4 rfl ⟨[], trivial⟩)) (symKeyD (G := G ++ [(⟨r5, arr .u8 32 (bt mk), 30⟩ : Blk)]) (List.mem_append_left _ hO) y hy _ (ky (bt mk)) ((shows32 _ (bt mk) _).mono (fun x h => List.mem_append_right _ h)) (ky_lt (bt_b mk)) (by simp)) rfl rfl ?_
        refine e_as (congrArg SVy hy2.symm) ?_
        refine (Qf 9) ?_
        refine e_stK (i := 0) 9 5 (Uz 35 rfl) rfl rfl ⟨fun _ => rfl, fun _ => rfl, fun _ => rfl, fun _ => rfl, fun _ => rfl, trivial⟩ rfl rfl rfl rfl (by decide) (.inl rfl) ?_
        refine e_blk (c' := shC b l vp v0 v1 vt true tn dd y2 ow r vk ((us : Nat) : Int)) rfl ?_
        refine Qn<|Qs<|Qp<|(QD 0) ?_
        refine e_storeA (i := 1) (Uz 37) rfl rfl (arrv_size _ _) (cells_one ⟨fun _ => rfl, fun _ => rfl, fun _ => h1.1, fun _ => h1.2.1, fun _ => h1.2.2.1, fun _ => h1.2.2.2.1, fun _ => rfl, fun _ => rfl, fun _ => rfl, fun _ => rfl, fun _ => rfl, fun _ => rfl, fun _ => rfl, fun _ => rfl, fun _ => rfl, fun _ => rfl, fun _ => rfl, fun _ => rfl, fun _ => rfl, fun _ => rfl, fun _ => rfl, fun _ => h1.2.2.2.2, fun _ => rfl, trivial⟩) rfl cells_sz (.inl rfl) ?_
        refine (Qa)<|Qn<|Qr ?_
        exact ⟨_, _, rfl, .cell (i := 1) rfl rfl (Uu 37) rfl (Uz 37) (arrv_size _ _), .tmp rfl⟩
set_option maxHeartbeats 4000000 in
theorem mixKeys_false (hO : DOR ∈ G) (b : List Nat) (l : Bool) (vp v0 v1 vt : Value) (tn : Int) (dd : Bool) (y : SY) (r : RS) (ow : Nat → Nat) (vk : Value) (us : Nat) (ps : List (Nat → Nat)) (hk : Shows G 32 vk ps.length (psC ps)) (hp : okP ps) (h1 : ones vp v0 v1 vt vk) (hy : okY y) (hr : okR r) (ho : B32 ow) (t : Nat) (h3 : 3 ≤ t) (h6 : t ≤ 6) (w : Nat × SS) (hw : bothT false ow ps t (y, r, us) = w) : Fn Tryz.prog G 165 #[.agg (shC b l vp v0 v1 vt false tn dd y ow r vk ((us : Nat) : Int)), ii t] (.tuple #[.agg (shC b l vp v0 v1 vt false tn dd w.2.1 ow w.2.2.1 vk ((w.2.2.2 : Nat) : Int)), ii w.1]) := by
  have _u1 := hk
  have _u2 := hp
  obtain ⟨fs, hfs⟩ : ∃ z, z = secT false ow r t := ⟨_, rfl⟩
  obtain ⟨fp, hfp⟩ : ∃ z, z = pubT false r t := ⟨_, rfl⟩
  obtain ⟨bs, hbs⟩ : ∃ z, z = hasT false r t := ⟨_, rfl⟩
  obtain ⟨bw, hbw⟩ : ∃ z, z = sawT false r t := ⟨_, rfl⟩
  have hls : B32 fs := by rw [hfs]; exact secT_lt ho hr
  have hlp : B32 fp := by rw [hfp]; exact pubT_lt hr
  obtain ⟨mk, hmk⟩ : ∃ z, z = mulK fs fp := ⟨_, rfl⟩
  have h7 : t ≠ 7 := by omega
  have hN : (bs && bw) = false → w = (5, (y, r, us)) := fun h => by rw [← hw]; exact both_none h7 (by rw [← hbs, ← hbw]; exact h)
  have hZ : ¬ (bs && bw) = false → mk = 0 → w = (12, (y, r, us)) := fun h hz => by rw [← hw]; exact both_zero h7 (by rw [← hbs, ← hbw]; exact h) (by rw [← hfs, ← hfp, ← hmk]; exact hz)
  have hK : ¬ (bs && bw) = false → ¬ mk = 0 → w = (0, keyP y (ky (bt mk)), r, us) := fun h hz => by rw [← hw]; exact (both_ok h7 (by rw [← hbs, ← hbw]; exact h) (by rw [← hfs, ← hfp, ← hmk]; exact hz)).trans (by rw [← hfs, ← hfp, ← hmk])
  refine Qf2 Tryz.func165 ?_
  refine Qs<|Qp<|(Qh 0) fun r1=>(QH 1) fun r2=>(Qa)<|Qn<|Qs<|Qp<|(Qm) ?_
  refine e_call rfl (Un 214) (dlet_fn t) rfl rfl ?_
  refine (Qm)<|(Qx)<|(Qx)<|(Qa)<|(Qa)<|Qn<|Qs<|Qs<|Qp<|(Qf 6)<|(QV 6 0)<|(Q0)<|Qn<|(Qct)<|Qp<|(Qm)<|(Qm)<|(Qa)<|(Qa)<|Qn<|Qs<|Qp<|(QD 0)<|(Qm) ?_
  refine e_call rfl (Un 215) (secretOf_fn b l vp v0 v1 vt false tn dd y r ow vk us (letB t)) rfl rfl ?_
  refine e_as (show _ = Value.tuple #[.agg (arr .u8 32 fs), .bool bs] by rw [hfs, hbs, ← sec_eq (fi := false) h3 h6, ← has_eq (fi := false) h3 h6]; rfl) ?_
  refine (Qm)<|(Qx)<|(Qx)<|(QH 2) fun r3=>(Qt 2)<|(Qa)<|Qn<|Qs<|Qp<|(QD 0)<|(Qm) ?_
  refine e_call rfl (Un 216) (publicOf_fn b l vp v0 v1 vt false tn dd y r ow vk us (letA t)) rfl rfl ?_
  refine e_as (show _ = Value.tuple #[.agg (arr .u8 32 fp), .bool bw] by rw [hfp, hbw, ← pub_eq (fi := false) h3 h6, ← saw_eq (fi := false) h3 h6]; rfl) ?_
  refine (Qm)<|(Qx)<|(Qx)<|(QH 3) fun r4=>(Qt 3)<|(Qa)<|Qn<|Qs<|Qs<|Qp ?_
  refine e_join [(0, _), (1, _), (2, _), (4, _), (5, _), (6, _), (7, _), (8, _), (9, _), (10, _), (11, _), (14, _), (15, _), (16, _), (17, _), (18, _), (19, _), (20, _), (21, _), (22, _), (23, _), (24, _), (25, _), (26, _), (27, _), (28, _), (29, _), (30, _), (31, _), (32, _), (33, _), (34, _), (35, _)] [(41, .bool (!(bs && bw)))] [(0, some _), (1, some _), (2, some _), (3, some _)] ⟨rfl, rfl, rfl, rfl, rfl, rfl, rfl, rfl, rfl, rfl, rfl, rfl, rfl, rfl, rfl, rfl, rfl, rfl, rfl, rfl, rfl, rfl, rfl, rfl, rfl, rfl, rfl, rfl, rfl, rfl, rfl, rfl, rfl, trivial⟩ ⟨rfl, rfl, rfl, rfl, trivial⟩ ?_ ?_
  · skip
    refine (Qm)<|(Q0)<|(Qm) ?_
    refine e_case (b := (!bs)) (fun hb0 => ?_) (fun hb0 => ?_)
    · skip
      refine (Qo)<|(Qo)<|(QT)<|Qn ?_
      exact ⟨⟨rfl, rfl, rfl, rfl, rfl, rfl, rfl, rfl, rfl, rfl, rfl, rfl, rfl, rfl, rfl, rfl, rfl, rfl, rfl, rfl, rfl, rfl, rfl, rfl, rfl, rfl, rfl, rfl, rfl, rfl, rfl, rfl, rfl, trivial⟩, ⟨bool_fin (by rw [Bool.not_and, hb0] <;> rfl), trivial⟩, ⟨rfl, rfl, rfl, rfl, trivial⟩⟩
    · skip
      refine (Qy)<|(Qm)<|(Qy)<|(Q0)<|(QF)<|Qn ?_
      exact ⟨⟨rfl, rfl, rfl, rfl, rfl, rfl, rfl, rfl, rfl, rfl, rfl, rfl, rfl, rfl, rfl, rfl, rfl, rfl, rfl, rfl, rfl, rfl, rfl, rfl, rfl, rfl, rfl, rfl, rfl, rfl, rfl, rfl, rfl, trivial⟩, ⟨bool_fin (by rw [Bool.not_and, hb0] <;> rfl), trivial⟩, ⟨rfl, rfl, rfl, rfl, trivial⟩⟩
  · simp only [catE]
    refine e_cond rfl ?_ ?_
    · intro hc1
      have hn1 : (bs && bw) = false := not_t hc1
      obtain rfl := hN hn1
      refine Qs<|Qp<|(QD 0) ?_
      refine e_storeA (i := 1) (Uz 37) rfl rfl (arrv_size _ _) (cells_one ⟨fun _ => rfl, fun _ => rfl, fun _ => h1.1, fun _ => h1.2.1, fun _ => h1.2.2.1, fun _ => h1.2.2.2.1, fun _ => rfl, fun _ => rfl, fun _ => rfl, fun _ => rfl, fun _ => rfl, fun _ => rfl, fun _ => rfl, fun _ => rfl, fun _ => rfl, fun _ => rfl, fun _ => rfl, fun _ => rfl, fun _ => rfl, fun _ => rfl, fun _ => rfl, fun _ => h1.2.2.2.2, fun _ => rfl, trivial⟩) rfl cells_sz (.inl rfl) ?_
      refine (Qa)<|Qn<|Qr ?_
      exact ⟨_, _, rfl, .cell (i := 1) rfl rfl (Uu 37) rfl (Uz 37) (arrv_size _ _), .tmp rfl⟩
    · intro hc1
      have hn1 : ¬ (bs && bw) = false := not_f hc1
      refine Qk<|Qs<|Qp<|(Qd 2)<|(Qd 3) ?_
      refine e_call rfl (Un 54) (lmult_fn fs fp hls hlp) rfl rfl ?_
      refine e_as (show _ = Value.tuple #[Value.agg (arr .u8 32 (bt mk)), .bool (!decide (mk = 0))] by rw [hmk]; rfl) ?_
      refine (Qm)<|(Qx)<|(Qx)<|(QH 4) fun r5=>(Qt 4)<|(Qa)<|Qn<|Qs<|Qs<|Qp<|(Qm)<|(Q0)<|Qn ?_
      refine e_cond rfl ?_ ?_
      · intro hc2
        have hz1 : mk = 0 := by simpa using hc2
        obtain rfl := hZ hn1 hz1
        refine Qs<|Qp<|(QD 0) ?_
        refine e_storeA (i := 1) (Uz 37) rfl rfl (arrv_size _ _) (cells_one ⟨fun _ => rfl, fun _ => rfl, fun _ => h1.1, fun _ => h1.2.1, fun _ => h1.2.2.1, fun _ => h1.2.2.2.1, fun _ => rfl, fun _ => rfl, fun _ => rfl, fun _ => rfl, fun _ => rfl, fun _ => rfl, fun _ => rfl, fun _ => rfl, fun _ => rfl, fun _ => rfl, fun _ => rfl, fun _ => rfl, fun _ => rfl, fun _ => rfl, fun _ => rfl, fun _ => h1.2.2.2.2, fun _ => rfl, trivial⟩) rfl cells_sz (.inl rfl) ?_
        refine (Qa)<|Qn<|Qr ?_
        exact ⟨_, _, rfl, .cell (i := 1) rfl rfl (Uu 37) rfl (Uz 37) (arrv_size _ _), .tmp rfl⟩
      · intro hc2
        have hz1 : ¬ mk = 0 := by simpa using hc2
        obtain ⟨y2, hy2⟩ : ∃ y2, y2 = keyP y (ky (bt mk)) := ⟨_, rfl⟩
        obtain rfl : w = (0, y2, r, us) := by rw [hy2]; exact hK hn1 hz1
        refine Qk<|Qs<|(Qg)<|(Qf 9) ?_
        refine e_ldK (i := 0) 9 5 (Uu 35 rfl) rfl (Uz 35 rfl) rfl rfl rfl rfl (by decide) rfl ⟨[], trivial⟩ ?_
        refine e_as (show _ = SVy y from rfl) ?_
        refine e_sliceA 0 32 (Uu 30) (Uz 5) rfl rfl rfl rfl rfl (by omega) (by omega) (by omega) rfl ?_
        refine e_callS rfl rfl (Un 195) (seen_app seenG (seen1 4 rfl ⟨[], trivial⟩)) (symKeyD (G := G ++ [(⟨r5, arr .u8 32 (bt mk), 30⟩ : Blk)]) (List.mem_append_left _ hO) y hy _ (ky (bt mk)) ((shows32 _ (bt mk) _).mono (fun x h => List.mem_append_right _ h)) (ky_lt (bt_b mk)) (by simp)) rfl rfl ?_
        refine e_as (congrArg SVy hy2.symm) ?_
        refine (Qf 9) ?_
        refine e_stK (i := 0) 9 5 (Uz 35 rfl) rfl rfl ⟨fun _ => rfl, fun _ => rfl, fun _ => rfl, fun _ => rfl, fun _ => rfl, trivial⟩ rfl rfl rfl rfl (by decide) (.inl rfl) ?_
        refine e_blk (c' := shC b l vp v0 v1 vt false tn dd y2 ow r vk ((us : Nat) : Int)) rfl ?_
        refine Qn<|Qs<|Qp<|(QD 0) ?_
        refine e_storeA (i := 1) (Uz 37) rfl rfl (arrv_size _ _) (cells_one ⟨fun _ => rfl, fun _ => rfl, fun _ => h1.1, fun _ => h1.2.1, fun _ => h1.2.2.1, fun _ => h1.2.2.2.1, fun _ => rfl, fun _ => rfl, fun _ => rfl, fun _ => rfl, fun _ => rfl, fun _ => rfl, fun _ => rfl, fun _ => rfl, fun _ => rfl, fun _ => rfl, fun _ => rfl, fun _ => rfl, fun _ => rfl, fun _ => rfl, fun _ => rfl, fun _ => h1.2.2.2.2, fun _ => rfl, trivial⟩) rfl cells_sz (.inl rfl) ?_
        refine (Qa)<|Qn<|Qr ?_
        exact ⟨_, _, rfl, .cell (i := 1) rfl rfl (Uu 37) rfl (Uz 37) (arrv_size _ _), .tmp rfl⟩
end Go.Proofs.YthljakcegoohlaaGreatDoor
namespace Go.Proofs.YthljakcegoohlaaGreatDoor
open Go Go.RowKit
theorem mixKeys_fn {G : Mem} (hO : DOR ∈ G) (b : List Nat) (l : Bool) (vp v0 v1 vt : Value) (fi : Bool) (tn : Int) (dd : Bool) (y : SY) (r : RS) (ow : Nat → Nat) (vk : Value) (us : Nat) (ps : List (Nat → Nat)) (hk : Shows G 32 vk ps.length (psC ps)) (hp : okP ps) (h1 : ones vp v0 v1 vt vk) (hy : okY y) (hr : okR r) (ho : B32 ow) (t : Nat) (h3 : 3 ≤ t) (h6 : t ≤ 6) (w : Nat × SS) (hw : bothT fi ow ps t (y, r, us) = w) : Fn Tryz.prog G 165 #[.agg (shC b l vp v0 v1 vt fi tn dd y ow r vk ((us : Nat) : Int)), ii t] (.tuple #[.agg (shC b l vp v0 v1 vt fi tn dd w.2.1 ow w.2.2.1 vk ((w.2.2.2 : Nat) : Int)), ii w.1]) := by
  cases fi with
  | true => exact mixKeys_true hO b l vp v0 v1 vt tn dd y r ow vk us ps hk hp h1 hy hr ho t h3 h6 w hw
  | false => exact mixKeys_false hO b l vp v0 v1 vt tn dd y r ow vk us ps hk hp h1 hy hr ho t h3 h6 w hw
variable {G : Mem}
set_option maxHeartbeats 2000000 in
theorem dmix_fn (hO : DOR ∈ G) (b : List Nat) (l : Bool) (vp v0 v1 vt : Value) (fi : Bool) (tn : Int) (dd : Bool) (y : SY) (r : RS) (ow : Nat → Nat) (vk : Value) (us : Nat) (ps : List (Nat → Nat)) (hk : Shows G 32 vk ps.length (psC ps)) (hp : okP ps) (h1 : ones vp v0 v1 vt vk) (hy : okY y) (hr : okR r) (ho : B32 ow) (t : Nat) (h3 : 3 ≤ t) (h7 : t ≤ 7) (w : Nat × SS) (hw : bothT fi ow ps t (y, r, us) = w) : Fn Tryz.prog G 115 #[.agg (shC b l vp v0 v1 vt fi tn dd y ow r vk ((us : Nat) : Int)), ii t] (.tuple #[.agg (shC b l vp v0 v1 vt fi tn dd w.2.1 ow w.2.2.1 vk ((w.2.2.2 : Nat) : Int)), ii w.1]) := by
  refine Qf2 Tryz.func115 ?_
  refine Qs<|Qp<|(Qh 0) fun r1=>(QH 1) fun r2=>(Qa)<|Qn<|Qs<|Qs<|Qp<|(Qm)<|(Qc)<|Qn ?_
  refine e_cond rfl ?_ ?_
  · intro hc0
    obtain rfl : t = 7 := by have := of_decide_eq_true hc0; omega
    refine Qs<|Qp<|(QD 0) ?_
    refine e_call rfl (Un 164) (mixPsk_fn hO b l vp v0 v1 vt fi tn dd y r ow vk us ps hk hp h1 hy hr ho w hw) rfl rfl ?_
    refine (Qx)<|(Qx) ?_
    refine e_storeA (i := 1) (Uz 37) rfl rfl (arrv_size _ _) (cells_one ⟨fun _ => rfl, fun _ => rfl, fun _ => h1.1, fun _ => h1.2.1, fun _ => h1.2.2.1, fun _ => h1.2.2.2.1, fun _ => rfl, fun _ => rfl, fun _ => rfl, fun _ => rfl, fun _ => rfl, fun _ => rfl, fun _ => rfl, fun _ => rfl, fun _ => rfl, fun _ => rfl, fun _ => rfl, fun _ => rfl, fun _ => rfl, fun _ => rfl, fun _ => rfl, fun _ => h1.2.2.2.2, fun _ => rfl, trivial⟩) rfl cells_sz (.inl rfl) ?_
    refine (Qa)<|Qn<|Qr ?_
    exact ⟨_, _, rfl, .cell (i := 1) rfl rfl (Uu 37) rfl (Uz 37) (arrv_size _ _), .tmp rfl⟩
  · intro hc0
    have h9 : ¬ t = 7 := by have := of_decide_eq_false hc0; omega
    refine Qk<|Qs<|Qp<|(QD 0)<|(Qm) ?_
    refine e_call rfl (Un 165) (mixKeys_fn hO b l vp v0 v1 vt fi tn dd y r ow vk us ps hk hp h1 hy hr ho t h3 (by omega) w hw) rfl rfl ?_
    refine (Qx)<|(Qx) ?_
    refine e_storeA (i := 1) (Uz 37) rfl rfl (arrv_size _ _) (cells_one ⟨fun _ => rfl, fun _ => rfl, fun _ => h1.1, fun _ => h1.2.1, fun _ => h1.2.2.1, fun _ => h1.2.2.2.1, fun _ => rfl, fun _ => rfl, fun _ => rfl, fun _ => rfl, fun _ => rfl, fun _ => rfl, fun _ => rfl, fun _ => rfl, fun _ => rfl, fun _ => rfl, fun _ => rfl, fun _ => rfl, fun _ => rfl, fun _ => rfl, fun _ => rfl, fun _ => h1.2.2.2.2, fun _ => rfl, trivial⟩) rfl cells_sz (.inl rfl) ?_
    refine (Qa)<|Qn<|Qr ?_
    exact ⟨_, _, rfl, .cell (i := 1) rfl rfl (Uu 37) rfl (Uz 37) (arrv_size _ _), .tmp rfl⟩
end Go.Proofs.YthljakcegoohlaaGreatDoor
namespace Go.Proofs.YthljakcegoohlaaGreatDoor
open Go Go.RowKit
theorem dtold_at {G X : Mem} (has : Bool) (k : Nat → Nat) (n : Nat) (ch h : Nat → Nat) (h2 : Bool) (k2 : Nat → Nat) (n2 : Nat) (v : Value) (l : List Nat) (hv : Shows ((DOR :: G) ++ X) 1 v l.length (l.map by8)) (hb : ∀ b ∈ l, b < 256) (hh : ∀ j, j < 32 → h j < 256) (hz : l.length ≤ 1073741792) : Fn Tryz.prog ((DOR :: G) ++ X) 167 #[SV has k n ch h, CV h2 k2 n2, v] (SV h2 k2 n2 ch (hx h l)) := dtold_fn (G := G ++ X) has k n ch h h2 k2 n2 v l hv hb hh hz
variable {G : Mem}
set_option maxHeartbeats 2000000 in
theorem dsSeal_err (has : Bool) (k : Nat → Nat) (n : Nat) (ch h : Nat → Nat) (vt : Value) (tx : List Nat) (hvt : Shows (DOR :: G) 1 vt tx.length (tx.map by8)) (e : Nat) (he : e ≠ 0) (hE : ∀ (G2 : Mem) (va : Value), Shows G2 1 va ((List.range 32).map h).length (((List.range 32).map h).map by8) → Sh G2 vt tx → Fn Tryz.prog G2 166 #[CV has k n, va, vt] (.tuple #[CZ, nilS, ii e])) : Fn Tryz.prog (DOR :: G) 116 #[SV has k n ch h, vt] (.tuple #[(.agg (cells 98 [pV (.bool false), pI .u8 32 (fun _ => 0), pV (.int .u64 0), pI .u8 32 (fun _ => 0), pI .u8 32 (fun _ => 0)])), nilS, ii e]) := by
  refine Qf3 Tryz.func116 ?_
  refine Qs<|Qp<|(Qh 0) fun r1=>(QH 1) fun r2=>(Qa)<|(Qa)<|Qn<|Qs<|(Qg)<|(Qf 0) ?_
  refine e_ldK (i := 0) 0 3 (Uu 33 rfl) rfl (Uz 33 rfl) rfl rfl rfl rfl (by decide) rfl ⟨[], trivial⟩ ?_
  refine e_as (show _ = CV has k n from rfl) ?_
  refine (Qf 66) ?_
  refine e_sliceA 0 32 (Uu 30) (Uz 5) rfl rfl rfl rfl rfl (by omega) (by omega) (by omega) rfl ?_
  refine (Qm) ?_
  refine e_callS rfl rfl (Un 166) (seen_app (seen1 0 rfl ⟨[], trivial⟩) seenG) (hE ([⟨r1, cS has k n ch h, 35⟩] ++ (DOR :: G)) _ ((cells_shows r1 4 35 h rfl (Nat.le_of_ble_eq_true rfl) (Nat.le_of_ble_eq_true rfl)).mono (fun x h => List.mem_append_left _ h)) (hvt.mono (fun x h => List.mem_append_right _ h))) rfl rfl ?_
  refine (Qm)<|(Qx)<|(Qx)<|(Qx)<|(QH 2) fun r3=>?_
  refine e_storeA (i := 2) (Uz 33) rfl rfl (arrv_size _ _) (cells_one ⟨fun _ => rfl, fun _ => rfl, fun _ => rfl, trivial⟩) rfl cells_sz (.inl rfl) ?_
  refine (Qa)<|(Qa)<|Qn<|Qs<|Qs<|Qp<|(Qm)<|(QN)<|(Qat)<|Qn ?_
  refine e_cond rfl ?_ ?_
  · intro hc0
    refine Qs<|Qp ?_
    refine e_buildS (cells 98 [pV (.bool false), pI .u8 32 (fun _ => 0), pV (.int .u64 0), pI .u8 32 (fun _ => 0), pI .u8 32 (fun _ => 0)]) (Ub 35 rfl) (Uu 35 rfl) pls35 rfl (by kernel_rfl) rfl ?_
    refine (Qm) ?_
    refine e_storeA (i := 1) (Uz 35) rfl rfl (arrv_size _ _) (cells_one ⟨fun _ => rfl, fun _ => rfl, fun _ => rfl, fun _ => rfl, fun _ => rfl, trivial⟩) rfl cells_sz (.inl rfl) ?_
    refine (Qa)<|(Qa)<|Qn<|Qr ?_
    exact ⟨_, _, _, rfl, .cell (i := 1) rfl rfl (Uu 35) rfl (Uz 35) (arrv_size _ _), .tmp rfl, .tmp rfl⟩
  · intro hc0
    exact absurd hc0 (by decide)
set_option maxHeartbeats 2000000 in
theorem dsSeal_ok (has : Bool) (k : Nat → Nat) (n : Nat) (ch h : Nat → Nat) (vt : Value) (tx out : List Nat) (hvt : Shows (DOR :: G) 1 vt tx.length (tx.map by8)) (hob : (∀ b ∈ out, b < 256)) (hol : out.length ≤ 1000) (hh : L8 32 h) (h2 : Bool) (k2 : Nat → Nat) (n2 : Nat) (hE : ∀ (G2 : Mem) (va : Value), Shows G2 1 va ((List.range 32).map h).length (((List.range 32).map h).map by8) → Sh G2 vt tx → Fx Tryz.prog G2 [] 166 #[CV has k n, va, vt] (fun v l1 nw => l1 = [] ∧ ∃ v', v = .tuple #[CV h2 k2 n2, v', ii 0] ∧ OwnS 5 1 v' out.length (out.map by8) nw)) : Fx Tryz.prog (DOR :: G) [] 116 #[SV has k n ch h, vt] (fun v l1 nw => l1 = [] ∧ ∃ v', v = .tuple #[SV h2 k2 n2 ch (hx h out), v', ii 0] ∧ OwnS 5 1 v' out.length (out.map by8) nw) := by
  refine QfO Tryz.func116 ?_
  refine Qs<|Qp<|(Qh 0) fun r1=>(QH 1) fun r2=>(Qa)<|(Qa)<|Qn<|Qs<|(Qq ⟨[], 4, [], none⟩)<|(Qf 0) ?_
  refine e_ldK (i := 0) 0 3 (Uu 33 rfl) rfl (Uz 33 rfl) rfl rfl rfl rfl (by decide) rfl ⟨[], trivial⟩ ?_
  refine e_as (show _ = CV has k n from rfl) ?_
  refine (Qf 66) ?_
  refine e_sliceA 0 32 (Uu 30) (Uz 5) rfl rfl rfl rfl rfl (by omega) (by omega) (by omega) rfl ?_
  refine (Qm) ?_
  refine e_callN 2 (fun v => .tuple #[CV h2 k2 n2, v, ii 0]) rfl rfl (Un 166) (seen_app (seen1 0 rfl ⟨[], trivial⟩) seenG) (hE ([⟨r1, cS has k n ch h, 35⟩] ++ (DOR :: G)) _ ((cells_shows r1 4 35 h rfl (Nat.le_of_ble_eq_true rfl) (Nat.le_of_ble_eq_true rfl)).mono (fun x h => List.mem_append_left _ h)) (hvt.mono (fun x h => List.mem_append_right _ h))) (by simp only [maxLen]; omega) (by rw [List.length_map, Nat.mul_one]) rfl rfl fun v1_1 oz1_1 ho1_1 => ?_
  refine (Qm)<|(Qx)<|(Qx)<|(Qx)<|(QH 3) fun r4=>?_
  refine e_storeA (i := 3) (Uz 33) rfl rfl (arrv_size _ _) (cells_one ⟨fun _ => rfl, fun _ => rfl, fun _ => rfl, trivial⟩) rfl cells_sz (.inl rfl) ?_
  refine (Qa)<|(Qa)<|Qn<|Qs<|Qs<|Qp<|(Qm)<|(QN) ?_
  refine e_as (congrArg Value.bool (decide_eq_false (fun h => h rfl))) ?_
  refine Qn ?_
  refine e_cond rfl ?_ ?_
  · intro hc0
    exact absurd hc0 (by decide)
  · intro hc0
    refine Qk<|Qs<|Qp<|(QD 0) ?_
    refine e_as (show _ = SV has k n ch h from rfl) ?_
    refine (QD 3) ?_
    refine e_as (show _ = CV h2 k2 n2 from rfl) ?_
    refine (Qm) ?_
    refine e_callS rfl rfl (Un 167) (seen_app seenG (seenM 2 rfl ⟨[], trivial⟩)) (dtold_at (G := G) (X := oz1_1.toList) has k n ch h h2 k2 n2 _ out (Shows.mono (own_bytes ho1_1) (fun x h => List.mem_append_right _ h)) hob hh (by omega)) rfl rfl ?_
    refine (Qm) ?_
    refine e_storeA (i := 1) (Uz 35) rfl rfl (arrv_size _ _) (cells_one ⟨fun _ => rfl, fun _ => rfl, fun _ => rfl, fun _ => rfl, fun _ => rfl, trivial⟩) rfl cells_sz (.inl rfl) ?_
    refine (Qa)<|(Qa)<|Qn<|Qr ?_
    exact ⟨_, _, _, _, _, 2, rfl, .cell (i := 1) rfl rfl (Uu 35) rfl (Uz 35) (arrv_size _ _), .tmp rfl, .tmp rfl, ho1_1, rfl⟩
set_option maxHeartbeats 2000000 in
theorem dsOpen_err (has : Bool) (k : Nat → Nat) (n : Nat) (ch h : Nat → Nat) (vt : Value) (tx : List Nat) (hvt : Shows (DOR :: G) 1 vt tx.length (tx.map by8)) (e : Nat) (he : e ≠ 0) (hE : ∀ (G2 : Mem) (va : Value), Shows G2 1 va ((List.range 32).map h).length (((List.range 32).map h).map by8) → Sh G2 vt tx → Fn Tryz.prog G2 171 #[CV has k n, va, vt] (.tuple #[CZ, nilS, ii e])) : Fn Tryz.prog (DOR :: G) 125 #[SV has k n ch h, vt] (.tuple #[(.agg (cells 98 [pV (.bool false), pI .u8 32 (fun _ => 0), pV (.int .u64 0), pI .u8 32 (fun _ => 0), pI .u8 32 (fun _ => 0)])), nilS, ii e]) := by
  refine Qf3 Tryz.func125 ?_
  refine Qs<|Qp<|(Qh 0) fun r1=>(QH 1) fun r2=>(Qa)<|(Qa)<|Qn<|Qs<|(Qg)<|(Qf 0) ?_
  refine e_ldK (i := 0) 0 3 (Uu 33 rfl) rfl (Uz 33 rfl) rfl rfl rfl rfl (by decide) rfl ⟨[], trivial⟩ ?_
  refine e_as (show _ = CV has k n from rfl) ?_
  refine (Qf 66) ?_
  refine e_sliceA 0 32 (Uu 30) (Uz 5) rfl rfl rfl rfl rfl (by omega) (by omega) (by omega) rfl ?_
  refine (Qm) ?_
  refine e_callS rfl rfl (Un 171) (seen_app (seen1 0 rfl ⟨[], trivial⟩) seenG) (hE ([⟨r1, cS has k n ch h, 35⟩] ++ (DOR :: G)) _ ((cells_shows r1 4 35 h rfl (Nat.le_of_ble_eq_true rfl) (Nat.le_of_ble_eq_true rfl)).mono (fun x h => List.mem_append_left _ h)) (hvt.mono (fun x h => List.mem_append_right _ h))) rfl rfl ?_
  refine (Qm)<|(Qx)<|(Qx)<|(Qx)<|(QH 2) fun r3=>?_
  refine e_storeA (i := 2) (Uz 33) rfl rfl (arrv_size _ _) (cells_one ⟨fun _ => rfl, fun _ => rfl, fun _ => rfl, trivial⟩) rfl cells_sz (.inl rfl) ?_
  refine (Qa)<|(Qa)<|Qn<|Qs<|Qs<|Qp<|(Qm)<|(QN)<|(Qat)<|Qn ?_
  refine e_cond rfl ?_ ?_
  · intro hc0
    refine Qs<|Qp ?_
    refine e_buildS (cells 98 [pV (.bool false), pI .u8 32 (fun _ => 0), pV (.int .u64 0), pI .u8 32 (fun _ => 0), pI .u8 32 (fun _ => 0)]) (Ub 35 rfl) (Uu 35 rfl) pls35 rfl (by kernel_rfl) rfl ?_
    refine (Qm) ?_
    refine e_storeA (i := 1) (Uz 35) rfl rfl (arrv_size _ _) (cells_one ⟨fun _ => rfl, fun _ => rfl, fun _ => rfl, fun _ => rfl, fun _ => rfl, trivial⟩) rfl cells_sz (.inl rfl) ?_
    refine (Qa)<|(Qa)<|Qn<|Qr ?_
    exact ⟨_, _, _, rfl, .cell (i := 1) rfl rfl (Uu 35) rfl (Uz 35) (arrv_size _ _), .tmp rfl, .tmp rfl⟩
  · intro hc0
    exact absurd hc0 (by decide)
set_option maxHeartbeats 2000000 in
theorem dsOpen_ok (has : Bool) (k : Nat → Nat) (n : Nat) (ch h : Nat → Nat) (vt : Value) (tx out : List Nat) (hvt : Shows (DOR :: G) 1 vt tx.length (tx.map by8)) (htb : (∀ b ∈ tx, b < 256)) (htl : tx.length ≤ 1000) (hol : out.length ≤ 1000) (hh : L8 32 h) (h2 : Bool) (k2 : Nat → Nat) (n2 : Nat) (hE : ∀ (G2 : Mem) (va : Value), Shows G2 1 va ((List.range 32).map h).length (((List.range 32).map h).map by8) → Sh G2 vt tx → Fx Tryz.prog G2 [] 171 #[CV has k n, va, vt] (fun v l1 nw => l1 = [] ∧ ∃ v', v = .tuple #[CV h2 k2 n2, v', ii 0] ∧ OwnS 5 1 v' out.length (out.map by8) nw)) : Fx Tryz.prog (DOR :: G) [] 125 #[SV has k n ch h, vt] (fun v l1 nw => l1 = [] ∧ ∃ v', v = .tuple #[SV h2 k2 n2 ch (hx h tx), v', ii 0] ∧ OwnS 5 1 v' out.length (out.map by8) nw) := by
  refine QfO Tryz.func125 ?_
  refine Qs<|Qp<|(Qh 0) fun r1=>(QH 1) fun r2=>(Qa)<|(Qa)<|Qn<|Qs<|(Qq ⟨[], 4, [], none⟩)<|(Qf 0) ?_
  refine e_ldK (i := 0) 0 3 (Uu 33 rfl) rfl (Uz 33 rfl) rfl rfl rfl rfl (by decide) rfl ⟨[], trivial⟩ ?_
  refine e_as (show _ = CV has k n from rfl) ?_
  refine (Qf 66) ?_
  refine e_sliceA 0 32 (Uu 30) (Uz 5) rfl rfl rfl rfl rfl (by omega) (by omega) (by omega) rfl ?_
  refine (Qm) ?_
  refine e_callN 2 (fun v => .tuple #[CV h2 k2 n2, v, ii 0]) rfl rfl (Un 171) (seen_app (seen1 0 rfl ⟨[], trivial⟩) seenG) (hE ([⟨r1, cS has k n ch h, 35⟩] ++ (DOR :: G)) _ ((cells_shows r1 4 35 h rfl (Nat.le_of_ble_eq_true rfl) (Nat.le_of_ble_eq_true rfl)).mono (fun x h => List.mem_append_left _ h)) (hvt.mono (fun x h => List.mem_append_right _ h))) (by simp only [maxLen]; omega) (by rw [List.length_map, Nat.mul_one]) rfl rfl fun v1_1 oz1_1 ho1_1 => ?_
  refine (Qm)<|(Qx)<|(Qx)<|(Qx)<|(QH 3) fun r4=>?_
  refine e_storeA (i := 3) (Uz 33) rfl rfl (arrv_size _ _) (cells_one ⟨fun _ => rfl, fun _ => rfl, fun _ => rfl, trivial⟩) rfl cells_sz (.inl rfl) ?_
  refine (Qa)<|(Qa)<|Qn<|Qs<|Qs<|Qp<|(Qm)<|(QN) ?_
  refine e_as (congrArg Value.bool (decide_eq_false (fun h => h rfl))) ?_
  refine Qn ?_
  refine e_cond rfl ?_ ?_
  · intro hc0
    exact absurd hc0 (by decide)
  · intro hc0
    refine Qk<|Qs<|Qp<|(QD 0) ?_
    refine e_as (show _ = SV has k n ch h from rfl) ?_
    refine (QD 3) ?_
    refine e_as (show _ = CV h2 k2 n2 from rfl) ?_
    refine (Qm) ?_
    refine e_call rfl (Un 167) (dtold_fn has k n ch h h2 k2 n2 vt tx hvt htb hh (by omega)) rfl rfl ?_
    refine (Qm) ?_
    refine e_storeA (i := 1) (Uz 35) rfl rfl (arrv_size _ _) (cells_one ⟨fun _ => rfl, fun _ => rfl, fun _ => rfl, fun _ => rfl, fun _ => rfl, trivial⟩) rfl cells_sz (.inl rfl) ?_
    refine (Qa)<|(Qa)<|Qn<|Qr ?_
    exact ⟨_, _, _, _, _, 2, rfl, .cell (i := 1) rfl rfl (Uu 35) rfl (Uz 35) (arrv_size _ _), .tmp rfl, .tmp rfl, ho1_1, rfl⟩
end Go.Proofs.YthljakcegoohlaaGreatDoor
namespace Go.Proofs.YthljakcegoohlaaGreatDoor
open Go Go.RowKit
variable {G : Mem}
set_option maxHeartbeats 2000000 in
theorem dused_bad (has : Bool) (k : Nat → Nat) (n : Nat) (va vt : Value) (vf : Value) (hok : okC has k n = false) : Fn Tryz.prog G 217 #[CV has k n, va, vt, vf] (.tuple #[CZ, nilS, ii 9]) := by
  refine Qf3 Tryz.func217 ?_
  refine Qs<|Qp<|(Qh 0) fun r1=>(QH 1) fun r2=>(Qa)<|(Qa)<|Qn<|Qs<|Qs<|Qp<|(QD 0) ?_
  refine e_call rfl (Un 242) (dchk8_fn has k n) rfl rfl ?_
  refine e_as (congrArg ii (show (if okC has k n = true then 0 else 9) = 9 by rw [hok]; rfl)) ?_
  refine (Qa)<|Qn<|Qs<|Qp<|(Qm)<|(QN)<|Qn ?_
  refine e_cond rfl ?_ ?_
  · intro hc0
    refine Qs<|Qp ?_
    refine e_buildS (cells 34 [pV (.bool false), pI .u8 32 (fun _ => 0), pV (.int .u64 0)]) (Ub 33 rfl) (Uu 33 rfl) pls33 rfl (by kernel_rfl) rfl ?_
    refine (Qm) ?_
    refine e_storeA (i := 1) (Uz 33) rfl rfl (arrv_size _ _) (cells_one ⟨fun _ => rfl, fun _ => rfl, fun _ => rfl, trivial⟩) rfl cells_sz (.inl rfl) ?_
    refine (Qa)<|(Qa)<|Qn<|Qr ?_
    exact ⟨_, _, _, rfl, .cell (i := 1) rfl rfl (Uu 33) rfl (Uz 33) (arrv_size _ _), .tmp rfl, .tmp rfl⟩
  · intro hc0
    exact absurd hc0 (by decide)
set_option maxHeartbeats 2000000 in
theorem dused_pbig (k : Nat → Nat) (n : Nat) (va vt : Value) (vf : Value) (tx : List Nat) (hvt : Sh G vt tx) (hok : okC false k n = true) (hl : 800 < tx.length) : Fn Tryz.prog G 217 #[CV false k n, va, vt, vf] (.tuple #[CZ, nilS, ii 1]) := by
  refine Qf3 Tryz.func217 ?_
  refine Qs<|Qp<|(Qh 0) fun r1=>(QH 1) fun r2=>(Qa)<|(Qa)<|Qn<|Qs<|Qs<|Qp<|(QD 0) ?_
  refine e_call rfl (Un 242) (dchk8_fn false k n) rfl rfl ?_
  refine e_as (congrArg ii (show (if okC false k n = true then 0 else 9) = 0 by rw [hok]; rfl)) ?_
  refine (Qa)<|Qn<|Qs<|Qp<|(Qm)<|(QN)<|Qn ?_
  refine e_cond rfl ?_ ?_
  · intro hc0
    exact absurd hc0 (by decide)
  · intro hc0
    refine Qk<|Qs<|Qs<|Qp<|(Qf 0)<|(QV 0 0)<|(Q0)<|Qn ?_
    refine e_cond rfl ?_ ?_
    · intro hc1
      refine Qs<|Qp<|(QD 0)<|(Qm) ?_
      refine e_call rfl (Un 243) (dplain_big k n vt tx hvt hl) rfl rfl ?_
      refine (Qx)<|(Qx)<|(Qx) ?_
      refine e_storeA (i := 1) (Uz 33) rfl rfl (arrv_size _ _) (cells_one ⟨fun _ => rfl, fun _ => rfl, fun _ => rfl, trivial⟩) rfl cells_sz (.inl rfl) ?_
      refine (Qa)<|(Qa)<|Qn<|Qr ?_
      exact ⟨_, _, _, rfl, .cell (i := 1) rfl rfl (Uu 33) rfl (Uz 33) (arrv_size _ _), .tmp rfl, .tmp rfl⟩
    · intro hc1
      exact absurd hc1 (by decide)
set_option maxHeartbeats 2000000 in
theorem dused_plain (k : Nat → Nat) (n : Nat) (va vt : Value) (vf : Value) (tx : List Nat) (hvt : Sh G vt tx) (hok : okC false k n = true) (hl : tx.length ≤ 800) : Fx Tryz.prog G [] 217 #[CV false k n, va, vt, vf] (fun v l1 nw => l1 = [] ∧ ∃ v', v = .tuple #[CV false k n, v', ii 0] ∧ OwnS 5 1 v' tx.length (tx.map by8) nw) := by
  refine QfO Tryz.func217 ?_
  refine Qs<|Qp<|(Qh 0) fun r1=>(QH 1) fun r2=>(Qa)<|(Qa)<|Qn<|Qs<|Qs<|Qp<|(QD 0) ?_
  refine e_call rfl (Un 242) (dchk8_fn false k n) rfl rfl ?_
  refine e_as (congrArg ii (show (if okC false k n = true then 0 else 9) = 0 by rw [hok]; rfl)) ?_
  refine (Qa)<|Qn<|Qs<|Qp<|(Qm)<|(QN)<|Qn ?_
  refine e_cond rfl ?_ ?_
  · intro hc0
    exact absurd hc0 (by decide)
  · intro hc0
    refine Qk<|Qs<|Qs<|Qp<|(Qf 0)<|(QV 0 0)<|(Q0)<|Qn ?_
    refine e_cond rfl ?_ ?_
    · intro hc1
      refine Qs<|QR ⟨[], 4, [], none⟩<|(QD 0)<|(Qm) ?_
      refine e_callN 2 (fun v => .tuple #[CV false k n, v, ii 0]) rfl rfl (Un 243) seenG (dplain_ok k n vt tx hvt hl) (by simp only [maxLen]; omega) (by rw [List.length_map, Nat.mul_one]) rfl rfl fun v3_1 oz3_1 ho3_1 => ?_
      refine (Qx)<|(Qx)<|(Qx) ?_
      refine e_storeA (i := 1) (Uz 33) rfl rfl (arrv_size _ _) (cells_one ⟨fun _ => rfl, fun _ => rfl, fun _ => rfl, trivial⟩) rfl cells_sz (.inl rfl) ?_
      refine (Qa)<|(Qa)<|Qn<|Qr ?_
      exact ⟨_, _, _, _, _, 2, rfl, .cell (i := 1) rfl rfl (Uu 33) rfl (Uz 33) (arrv_size _ _), .tmp rfl, .tmp rfl, ho3_1, rfl⟩
    · intro hc1
      exact absurd hc1 (by decide)
set_option maxHeartbeats 2000000 in
theorem dused_over (k : Nat → Nat) (n : Nat) (va vt : Value) (vf : Value) (hn : n = 18446744073709551615) : Fn Tryz.prog G 217 #[CV true k n, va, vt, vf] (.tuple #[CZ, nilS, ii 11]) := by
  have hok : okC true k n = true := rfl
  refine Qf3 Tryz.func217 ?_
  refine Qs<|Qp<|(Qh 0) fun r1=>(QH 1) fun r2=>(Qa)<|(Qa)<|Qn<|Qs<|Qs<|Qp<|(QD 0) ?_
  refine e_call rfl (Un 242) (dchk8_fn true k n) rfl rfl ?_
  refine e_as (congrArg ii (show (if okC true k n = true then 0 else 9) = 0 by rw [hok]; rfl)) ?_
  refine (Qa)<|Qn<|Qs<|Qp<|(Qm)<|(QN)<|Qn ?_
  refine e_cond rfl ?_ ?_
  · intro hc0
    exact absurd hc0 (by decide)
  · intro hc0
    refine Qk<|Qs<|Qs<|Qp<|(Qf 0)<|(QV 0 0)<|(Q0)<|Qn ?_
    refine e_cond rfl ?_ ?_
    · intro hc1
      exact absurd hc1 (by decide)
    · intro hc1
      refine Qk<|Qs<|Qs<|Qp<|(Qf 33)<|(QV 2 0)<|(Qc) ?_
      refine e_as (congrArg Value.bool (decide_eq_true (by rw [hn]; decide))) ?_
      refine Qn ?_
      refine e_cond rfl ?_ ?_
      · intro hc2
        refine Qs<|Qp ?_
        refine e_buildS (cells 34 [pV (.bool false), pI .u8 32 (fun _ => 0), pV (.int .u64 0)]) (Ub 33 rfl) (Uu 33 rfl) pls33 rfl (by kernel_rfl) rfl ?_
        refine e_storeA (i := 1) (Uz 33) rfl rfl (arrv_size _ _) (cells_one ⟨fun _ => rfl, fun _ => rfl, fun _ => rfl, trivial⟩) rfl cells_sz (.inl rfl) ?_
        refine (Qa)<|(Qa)<|Qn<|Qr ?_
        exact ⟨_, _, _, rfl, .cell (i := 1) rfl rfl (Uu 33) rfl (Uz 33) (arrv_size _ _), .tmp rfl, .tmp rfl⟩
      · intro hc2
        exact absurd hc2 (by decide)
set_option maxHeartbeats 2000000 in
theorem dused_err_open (k : Nat → Nat) (n : Nat) (va vt : Value) (hn : n < 18446744073709551615) (e : Nat) (he : e ≠ 0) (hE : Fn Tryz.prog G 223 #[.agg (arr .u8 32 k), .agg (arr .u8 12 (nonU n)), va, vt] (.tuple #[nilS, ii e])) : Fn Tryz.prog G 217 #[CV true k n, va, vt, .func (.func 223) #[] #[]] (.tuple #[CZ, nilS, ii e]) := by
  have hok : okC true k n = true := rfl
  refine Qf3 Tryz.func217 ?_
  refine Qs<|Qp<|(Qh 0) fun r1=>(QH 1) fun r2=>(Qa)<|(Qa)<|Qn<|Qs<|Qs<|Qp<|(QD 0) ?_
  refine e_call rfl (Un 242) (dchk8_fn true k n) rfl rfl ?_
  refine e_as (congrArg ii (show (if okC true k n = true then 0 else 9) = 0 by rw [hok]; rfl)) ?_
  refine (Qa)<|Qn<|Qs<|Qp<|(Qm)<|(QN)<|Qn ?_
  refine e_cond rfl ?_ ?_
  · intro hc0
    exact absurd hc0 (by decide)
  · intro hc0
    refine Qk<|Qs<|Qs<|Qp<|(Qf 0)<|(QV 0 0)<|(Q0)<|Qn ?_
    refine e_cond rfl ?_ ?_
    · intro hc1
      exact absurd hc1 (by decide)
    · intro hc1
      refine Qk<|Qs<|Qs<|Qp<|(Qf 33)<|(QV 2 0)<|(Qc)<|(Qaf)<|Qn ?_
      refine e_cond rfl ?_ ?_
      · intro hc2
        exact absurd hc2 (by decide)
      · intro hc2
        refine Qk<|Qs<|(Qg)<|(Qm)<|(Qf 1)<|(Qv 1 0)<|(Qf 33)<|(QV 2 0) ?_
        refine e_call rfl (Un 244) (dnonce_fn n) rfl rfl ?_
        refine (Qm)<|(Qm) ?_
        refine e_callS rfl rfl (Un 223) seenG hE rfl rfl ?_
        refine (Qm)<|(Qx)<|(Qx)<|(Qa)<|(Qa)<|Qn<|Qs<|Qs<|Qp<|(Qm)<|(QN)<|(Qat)<|Qn ?_
        refine e_cond rfl ?_ ?_
        · intro hc3
          refine Qs<|Qp ?_
          refine e_buildS (cells 34 [pV (.bool false), pI .u8 32 (fun _ => 0), pV (.int .u64 0)]) (Ub 33 rfl) (Uu 33 rfl) pls33 rfl (by kernel_rfl) rfl ?_
          refine (Qm) ?_
          refine e_storeA (i := 1) (Uz 33) rfl rfl (arrv_size _ _) (cells_one ⟨fun _ => rfl, fun _ => rfl, fun _ => rfl, trivial⟩) rfl cells_sz (.inl rfl) ?_
          refine (Qa)<|(Qa)<|Qn<|Qr ?_
          exact ⟨_, _, _, rfl, .cell (i := 1) rfl rfl (Uu 33) rfl (Uz 33) (arrv_size _ _), .tmp rfl, .tmp rfl⟩
        · intro hc3
          exact absurd hc3 (by decide)
set_option maxHeartbeats 2000000 in
theorem dused_ok_open (k : Nat → Nat) (n : Nat) (va vt : Value) (hn : n < 18446744073709551615) (out : List Nat) (hm : out.length ≤ maxLen) (hE : Fx Tryz.prog G [] 223 #[.agg (arr .u8 32 k), .agg (arr .u8 12 (nonU n)), va, vt] (fun v l1 nw => l1 = [] ∧ ∃ v', v = .tuple #[v', ii 0] ∧ OwnS 5 1 v' out.length (out.map by8) nw)) : Fx Tryz.prog G [] 217 #[CV true k n, va, vt, .func (.func 223) #[] #[]] (fun v l1 nw => l1 = [] ∧ ∃ v', v = .tuple #[CV true k (n + 1), v', ii 0] ∧ OwnS 5 1 v' out.length (out.map by8) nw) := by
  have hok : okC true k n = true := rfl
  refine QfO Tryz.func217 ?_
  refine Qs<|Qp<|(Qh 0) fun r1=>(QH 1) fun r2=>(Qa)<|(Qa)<|Qn<|Qs<|Qs<|Qp<|(QD 0) ?_
  refine e_call rfl (Un 242) (dchk8_fn true k n) rfl rfl ?_
  refine e_as (congrArg ii (show (if okC true k n = true then 0 else 9) = 0 by rw [hok]; rfl)) ?_
  refine (Qa)<|Qn<|Qs<|Qp<|(Qm)<|(QN)<|Qn ?_
  refine e_cond rfl ?_ ?_
  · intro hc0
    exact absurd hc0 (by decide)
  · intro hc0
    refine Qk<|Qs<|Qs<|Qp<|(Qf 0)<|(QV 0 0)<|(Q0)<|Qn ?_
    refine e_cond rfl ?_ ?_
    · intro hc1
      exact absurd hc1 (by decide)
    · intro hc1
      refine Qk<|Qs<|Qs<|Qp<|(Qf 33)<|(QV 2 0)<|(Qc)<|(Qaf)<|Qn ?_
      refine e_cond rfl ?_ ?_
      · intro hc2
        exact absurd hc2 (by decide)
      · intro hc2
        refine Qk<|Qs<|(Qq ⟨[], 4, [], none⟩)<|(Qm)<|(Qf 1)<|(Qv 1 0)<|(Qf 33)<|(QV 2 0) ?_
        refine e_call rfl (Un 244) (dnonce_fn n) rfl rfl ?_
        refine (Qm)<|(Qm) ?_
        refine e_callN 2 (fun v => .tuple #[v, ii 0]) rfl rfl (Un 223) seenG hE hm (by rw [List.length_map, Nat.mul_one]) rfl rfl fun v4_1 oz4_1 ho4_1 => ?_
        refine (Qm)<|(Qx)<|(Qx)<|(Qa)<|(Qa)<|Qn<|Qs<|Qs<|Qp<|(Qm)<|(QN) ?_
        refine e_as (congrArg Value.bool (decide_eq_false (fun h => h rfl))) ?_
        refine Qn ?_
        refine e_cond rfl ?_ ?_
        · intro hc3
          exact absurd hc3 (by decide)
        · intro hc3
          refine Qk<|Qs<|Qp<|(Qf 33)<|(QV 2 0) ?_
          refine e_add_u (q := 1) rfl rfl rfl  ?_
          refine e_as (congrArg u (Nat.mod_eq_of_lt (show n + 1 < 18446744073709551616 by omega))) ?_
          refine (Qf 33) ?_
          refine e_stV (i := 0) 2 (Uz 31) rfl rfl rfl rfl rfl (by decide) (.inl rfl) ?_
          refine Qn<|Qs<|Qp<|(QD 0) ?_
          refine e_as (show _ = CV true k (n + 1) from rfl) ?_
          refine (Qm) ?_
          refine e_storeA (i := 1) (Uz 33) rfl rfl (arrv_size _ _) (cells_one ⟨fun _ => rfl, fun _ => rfl, fun _ => rfl, trivial⟩) rfl cells_sz (.inl rfl) ?_
          refine (Qa)<|(Qa)<|Qn<|Qr ?_
          exact ⟨_, _, _, _, _, 2, rfl, .cell (i := 1) rfl rfl (Uu 33) rfl (Uz 33) (arrv_size _ _), .tmp rfl, .tmp rfl, ho4_1, rfl⟩
set_option maxHeartbeats 2000000 in
theorem dused_err_seal (k : Nat → Nat) (n : Nat) (va vt : Value) (hn : n < 18446744073709551615) (e : Nat) (he : e ≠ 0) (hE : Fn Tryz.prog G 218 #[.agg (arr .u8 32 k), .agg (arr .u8 12 (nonU n)), va, vt] (.tuple #[nilS, ii e])) : Fn Tryz.prog G 217 #[CV true k n, va, vt, .func (.func 218) #[] #[]] (.tuple #[CZ, nilS, ii e]) := by
  have hok : okC true k n = true := rfl
  refine Qf3 Tryz.func217 ?_
  refine Qs<|Qp<|(Qh 0) fun r1=>(QH 1) fun r2=>(Qa)<|(Qa)<|Qn<|Qs<|Qs<|Qp<|(QD 0) ?_
  refine e_call rfl (Un 242) (dchk8_fn true k n) rfl rfl ?_
  refine e_as (congrArg ii (show (if okC true k n = true then 0 else 9) = 0 by rw [hok]; rfl)) ?_
  refine (Qa)<|Qn<|Qs<|Qp<|(Qm)<|(QN)<|Qn ?_
  refine e_cond rfl ?_ ?_
  · intro hc0
    exact absurd hc0 (by decide)
  · intro hc0
    refine Qk<|Qs<|Qs<|Qp<|(Qf 0)<|(QV 0 0)<|(Q0)<|Qn ?_
    refine e_cond rfl ?_ ?_
    · intro hc1
      exact absurd hc1 (by decide)
    · intro hc1
      refine Qk<|Qs<|Qs<|Qp<|(Qf 33)<|(QV 2 0)<|(Qc)<|(Qaf)<|Qn ?_
      refine e_cond rfl ?_ ?_
      · intro hc2
        exact absurd hc2 (by decide)
      · intro hc2
        refine Qk<|Qs<|(Qg)<|(Qm)<|(Qf 1)<|(Qv 1 0)<|(Qf 33)<|(QV 2 0) ?_
        refine e_call rfl (Un 244) (dnonce_fn n) rfl rfl ?_
        refine (Qm)<|(Qm) ?_
        refine e_callS rfl rfl (Un 218) seenG hE rfl rfl ?_
        refine (Qm)<|(Qx)<|(Qx)<|(Qa)<|(Qa)<|Qn<|Qs<|Qs<|Qp<|(Qm)<|(QN)<|(Qat)<|Qn ?_
        refine e_cond rfl ?_ ?_
        · intro hc3
          refine Qs<|Qp ?_
          refine e_buildS (cells 34 [pV (.bool false), pI .u8 32 (fun _ => 0), pV (.int .u64 0)]) (Ub 33 rfl) (Uu 33 rfl) pls33 rfl (by kernel_rfl) rfl ?_
          refine (Qm) ?_
          refine e_storeA (i := 1) (Uz 33) rfl rfl (arrv_size _ _) (cells_one ⟨fun _ => rfl, fun _ => rfl, fun _ => rfl, trivial⟩) rfl cells_sz (.inl rfl) ?_
          refine (Qa)<|(Qa)<|Qn<|Qr ?_
          exact ⟨_, _, _, rfl, .cell (i := 1) rfl rfl (Uu 33) rfl (Uz 33) (arrv_size _ _), .tmp rfl, .tmp rfl⟩
        · intro hc3
          exact absurd hc3 (by decide)
set_option maxHeartbeats 2000000 in
theorem dused_ok_seal (k : Nat → Nat) (n : Nat) (va vt : Value) (hn : n < 18446744073709551615) (out : List Nat) (hm : out.length ≤ maxLen) (hE : Fx Tryz.prog G [] 218 #[.agg (arr .u8 32 k), .agg (arr .u8 12 (nonU n)), va, vt] (fun v l1 nw => l1 = [] ∧ ∃ v', v = .tuple #[v', ii 0] ∧ OwnS 5 1 v' out.length (out.map by8) nw)) : Fx Tryz.prog G [] 217 #[CV true k n, va, vt, .func (.func 218) #[] #[]] (fun v l1 nw => l1 = [] ∧ ∃ v', v = .tuple #[CV true k (n + 1), v', ii 0] ∧ OwnS 5 1 v' out.length (out.map by8) nw) := by
  have hok : okC true k n = true := rfl
  refine QfO Tryz.func217 ?_
  refine Qs<|Qp<|(Qh 0) fun r1=>(QH 1) fun r2=>(Qa)<|(Qa)<|Qn<|Qs<|Qs<|Qp<|(QD 0) ?_
  refine e_call rfl (Un 242) (dchk8_fn true k n) rfl rfl ?_
  refine e_as (congrArg ii (show (if okC true k n = true then 0 else 9) = 0 by rw [hok]; rfl)) ?_
  refine (Qa)<|Qn<|Qs<|Qp<|(Qm)<|(QN)<|Qn ?_
  refine e_cond rfl ?_ ?_
  · intro hc0
    exact absurd hc0 (by decide)
  · intro hc0
    refine Qk<|Qs<|Qs<|Qp<|(Qf 0)<|(QV 0 0)<|(Q0)<|Qn ?_
    refine e_cond rfl ?_ ?_
    · intro hc1
      exact absurd hc1 (by decide)
    · intro hc1
      refine Qk<|Qs<|Qs<|Qp<|(Qf 33)<|(QV 2 0)<|(Qc)<|(Qaf)<|Qn ?_
      refine e_cond rfl ?_ ?_
      · intro hc2
        exact absurd hc2 (by decide)
      · intro hc2
        refine Qk<|Qs<|(Qq ⟨[], 4, [], none⟩)<|(Qm)<|(Qf 1)<|(Qv 1 0)<|(Qf 33)<|(QV 2 0) ?_
        refine e_call rfl (Un 244) (dnonce_fn n) rfl rfl ?_
        refine (Qm)<|(Qm) ?_
        refine e_callN 2 (fun v => .tuple #[v, ii 0]) rfl rfl (Un 218) seenG hE hm (by rw [List.length_map, Nat.mul_one]) rfl rfl fun v4_1 oz4_1 ho4_1 => ?_
        refine (Qm)<|(Qx)<|(Qx)<|(Qa)<|(Qa)<|Qn<|Qs<|Qs<|Qp<|(Qm)<|(QN) ?_
        refine e_as (congrArg Value.bool (decide_eq_false (fun h => h rfl))) ?_
        refine Qn ?_
        refine e_cond rfl ?_ ?_
        · intro hc3
          exact absurd hc3 (by decide)
        · intro hc3
          refine Qk<|Qs<|Qp<|(Qf 33)<|(QV 2 0) ?_
          refine e_add_u (q := 1) rfl rfl rfl  ?_
          refine e_as (congrArg u (Nat.mod_eq_of_lt (show n + 1 < 18446744073709551616 by omega))) ?_
          refine (Qf 33) ?_
          refine e_stV (i := 0) 2 (Uz 31) rfl rfl rfl rfl rfl (by decide) (.inl rfl) ?_
          refine Qn<|Qs<|Qp<|(QD 0) ?_
          refine e_as (show _ = CV true k (n + 1) from rfl) ?_
          refine (Qm) ?_
          refine e_storeA (i := 1) (Uz 33) rfl rfl (arrv_size _ _) (cells_one ⟨fun _ => rfl, fun _ => rfl, fun _ => rfl, trivial⟩) rfl cells_sz (.inl rfl) ?_
          refine (Qa)<|(Qa)<|Qn<|Qr ?_
          exact ⟨_, _, _, _, _, 2, rfl, .cell (i := 1) rfl rfl (Uu 33) rfl (Uz 33) (arrv_size _ _), .tmp rfl, .tmp rfl, ho4_1, rfl⟩
end Go.Proofs.YthljakcegoohlaaGreatDoor
namespace Go.Proofs.YthljakcegoohlaaGreatDoor
open Go Go.RowKit
variable {G : Mem}
set_option maxHeartbeats 2000000 in
theorem dcopen_err (has : Bool) (k : Nat → Nat) (n : Nat) (va vt : Value) (e : Nat) (hU : Fn Tryz.prog G 217 #[CV has k n, va, vt, .func (.func 223) #[] #[]] (.tuple #[CZ, nilS, ii e])) : Fn Tryz.prog G 171 #[CV has k n, va, vt] (.tuple #[CZ, nilS, ii e]) := by
  refine Qf3 Tryz.func171 ?_
  refine Qs<|Qp<|(Qh 0) fun r1=>(QH 1) fun r2=>(Qa)<|(Qa)<|Qn<|Qs<|Qp<|(QD 0)<|(Qm)<|(Qm) ?_
  refine e_call rfl (Un 217) hU rfl rfl ?_
  refine (Qx)<|(Qx)<|(Qx) ?_
  refine e_storeA (i := 1) (Uz 33) rfl rfl (arrv_size _ _) (cells_one ⟨fun _ => rfl, fun _ => rfl, fun _ => rfl, trivial⟩) rfl cells_sz (.inl rfl) ?_
  refine (Qa)<|(Qa)<|Qn<|Qr ?_
  exact ⟨_, _, _, rfl, .cell (i := 1) rfl rfl (Uu 33) rfl (Uz 33) (arrv_size _ _), .tmp rfl, .tmp rfl⟩
set_option maxHeartbeats 2000000 in
theorem dcopen_ok (has : Bool) (k : Nat → Nat) (n : Nat) (va vt : Value) (h2 : Bool) (k2 : Nat → Nat) (n2 : Nat) (out : List Nat) (hm : out.length ≤ maxLen) (hU : Fx Tryz.prog G [] 217 #[CV has k n, va, vt, .func (.func 223) #[] #[]] (fun v l1 nw => l1 = [] ∧ ∃ v', v = .tuple #[CV h2 k2 n2, v', ii 0] ∧ OwnS 5 1 v' out.length (out.map by8) nw)) : Fx Tryz.prog G [] 171 #[CV has k n, va, vt] (fun v l1 nw => l1 = [] ∧ ∃ v', v = .tuple #[CV h2 k2 n2, v', ii 0] ∧ OwnS 5 1 v' out.length (out.map by8) nw) := by
  refine QfO Tryz.func171 ?_
  refine Qs<|Qp<|(Qh 0) fun r1=>(QH 1) fun r2=>(Qa)<|(Qa)<|Qn<|Qs<|QR ⟨[], 4, [], none⟩<|(QD 0)<|(Qm)<|(Qm) ?_
  refine e_callN 2 (fun v => .tuple #[CV h2 k2 n2, v, ii 0]) rfl rfl (Un 217) seenG hU hm (by rw [List.length_map, Nat.mul_one]) rfl rfl fun v1_1 oz1_1 ho1_1 => ?_
  refine (Qx)<|(Qx)<|(Qx) ?_
  refine e_storeA (i := 1) (Uz 33) rfl rfl (arrv_size _ _) (cells_one ⟨fun _ => rfl, fun _ => rfl, fun _ => rfl, trivial⟩) rfl cells_sz (.inl rfl) ?_
  refine (Qa)<|(Qa)<|Qn<|Qr ?_
  exact ⟨_, _, _, _, _, 2, rfl, .cell (i := 1) rfl rfl (Uu 33) rfl (Uz 33) (arrv_size _ _), .tmp rfl, .tmp rfl, ho1_1, rfl⟩
set_option maxHeartbeats 2000000 in
theorem dcseal_err (has : Bool) (k : Nat → Nat) (n : Nat) (va vt : Value) (e : Nat) (hU : Fn Tryz.prog G 217 #[CV has k n, va, vt, .func (.func 218) #[] #[]] (.tuple #[CZ, nilS, ii e])) : Fn Tryz.prog G 166 #[CV has k n, va, vt] (.tuple #[CZ, nilS, ii e]) := by
  refine Qf3 Tryz.func166 ?_
  refine Qs<|Qp<|(Qh 0) fun r1=>(QH 1) fun r2=>(Qa)<|(Qa)<|Qn<|Qs<|Qp<|(QD 0)<|(Qm)<|(Qm) ?_
  refine e_call rfl (Un 217) hU rfl rfl ?_
  refine (Qx)<|(Qx)<|(Qx) ?_
  refine e_storeA (i := 1) (Uz 33) rfl rfl (arrv_size _ _) (cells_one ⟨fun _ => rfl, fun _ => rfl, fun _ => rfl, trivial⟩) rfl cells_sz (.inl rfl) ?_
  refine (Qa)<|(Qa)<|Qn<|Qr ?_
  exact ⟨_, _, _, rfl, .cell (i := 1) rfl rfl (Uu 33) rfl (Uz 33) (arrv_size _ _), .tmp rfl, .tmp rfl⟩
set_option maxHeartbeats 2000000 in
theorem dcseal_ok (has : Bool) (k : Nat → Nat) (n : Nat) (va vt : Value) (h2 : Bool) (k2 : Nat → Nat) (n2 : Nat) (out : List Nat) (hm : out.length ≤ maxLen) (hU : Fx Tryz.prog G [] 217 #[CV has k n, va, vt, .func (.func 218) #[] #[]] (fun v l1 nw => l1 = [] ∧ ∃ v', v = .tuple #[CV h2 k2 n2, v', ii 0] ∧ OwnS 5 1 v' out.length (out.map by8) nw)) : Fx Tryz.prog G [] 166 #[CV has k n, va, vt] (fun v l1 nw => l1 = [] ∧ ∃ v', v = .tuple #[CV h2 k2 n2, v', ii 0] ∧ OwnS 5 1 v' out.length (out.map by8) nw) := by
  refine QfO Tryz.func166 ?_
  refine Qs<|Qp<|(Qh 0) fun r1=>(QH 1) fun r2=>(Qa)<|(Qa)<|Qn<|Qs<|QR ⟨[], 4, [], none⟩<|(QD 0)<|(Qm)<|(Qm) ?_
  refine e_callN 2 (fun v => .tuple #[CV h2 k2 n2, v, ii 0]) rfl rfl (Un 217) seenG hU hm (by rw [List.length_map, Nat.mul_one]) rfl rfl fun v1_1 oz1_1 ho1_1 => ?_
  refine (Qx)<|(Qx)<|(Qx) ?_
  refine e_storeA (i := 1) (Uz 33) rfl rfl (arrv_size _ _) (cells_one ⟨fun _ => rfl, fun _ => rfl, fun _ => rfl, trivial⟩) rfl cells_sz (.inl rfl) ?_
  refine (Qa)<|(Qa)<|Qn<|Qr ?_
  exact ⟨_, _, _, _, _, 2, rfl, .cell (i := 1) rfl rfl (Uu 33) rfl (Uz 33) (arrv_size _ _), .tmp rfl, .tmp rfl, ho1_1, rfl⟩
end Go.Proofs.YthljakcegoohlaaGreatDoor
namespace Go.Proofs.YthljakcegoohlaaGreatDoor
open Go Go.RowKit
theorem dsealA {G : Mem} (hO : DOR ∈ G) (y : SY) (hy : okY y) (vt : Value) (tx : List Nat) (hvt : Shows G 1 vt tx.length (tx.map by8)) (htb : ∀ b ∈ tx, b < 256) (w : Nat × SY × List Nat) (hw : sealP y tx = w) :
    (w.1 ≠ 0 → Fn Tryz.prog G 116 #[SVy y, vt] (.tuple #[SVy w.2.1, nilS, ii w.1])) ∧ (w.1 = 0 → Fx Tryz.prog G [] 116 #[SVy y, vt] (fun v l1 nw => l1 = [] ∧ ∃ v', v = .tuple #[SVy w.2.1, v', ii 0] ∧ OwnS 5 1 v' w.2.2.length (w.2.2.map by8) nw)) := by
  obtain ⟨has, k, n, ch, h⟩ := y
  obtain ⟨hk, hn, hc, hh⟩ := hy
  have hv2 : Shows (DOR :: G) 1 vt tx.length (tx.map by8) := hvt.mono fun _ hx => List.mem_cons_of_mem _ hx
  have hk : ∀ j, j < 32 → k j < 256 := hk
  have hn : n < 18446744073709551616 := hn
  have hh : ∀ j, j < 32 → h j < 256 := hh
  have ee : ∀ (has : Bool) (e : Nat), e ≠ 0 → (∀ (G2 : Mem) (va : Value), Shows G2 1 va (ky h).length ((ky h).map by8) → Shows G2 1 vt tx.length (tx.map by8) → Fn Tryz.prog G2 217 #[CV has k n, va, vt, .func (.func 218) #[] #[]] (.tuple #[CZ, nilS, ii e])) → Fn Tryz.prog G 116 #[SV has k n ch h, vt] (.tuple #[SVy SYZ, nilS, ii e]) := fun has e he hU =>
    (dsSeal_err (G := G) has k n ch h vt tx hv2 e he (fun G2 va ha ht => dcseal_err has k n va vt e (hU G2 va ha ht))).more (in1 hO)
  by_cases hok : okC has k n = false
  · obtain rfl : w = (9, SYZ, []) := by rw [← hw]; exact if_pos hok
    exact ⟨fun _ => ee has 9 (by decide) fun _ va _ _ => dused_bad has k n va vt _ hok, fun h0 => absurd h0 nin_ne⟩
  have hok2 : okC has k n = true := by simpa using hok
  cases has
  · by_cases hl : 800 < tx.length
    · obtain rfl : w = (1, SYZ, []) := by rw [← hw]; exact (if_neg hok).trans ((if_pos rfl).trans (if_pos hl))
      exact ⟨fun _ => ee false 1 (by decide) fun _ va _ ht => dused_pbig k n va vt _ tx ht hok2 hl, fun h0 => absurd h0 onn_ne⟩
    · obtain rfl : w = (0, hashP (false, k, n, ch, h) tx, tx) := by rw [← hw]; exact (if_neg hok).trans ((if_pos rfl).trans (if_neg hl))
      exact ⟨fun h0 => absurd rfl h0, fun _ => (dsSeal_ok (G := G) false k n ch h vt tx tx hv2 htb (by omega) hh false k n (fun G2 va _ ht => dcseal_ok false k n va vt false k n tx (by simp only [maxLen]; omega) (dused_plain k n va vt _ tx ht hok2 (by omega)))).wide (in1 hO)⟩
  have ht : ¬ true = false := by decide
  by_cases hov : n = 18446744073709551615
  · obtain rfl : w = (11, SYZ, []) := by rw [← hw]; exact (if_neg hok).trans ((if_neg ht).trans (if_pos hov))
    exact ⟨fun _ => ee true 11 (by decide) fun _ va _ _ => dused_over k n va vt _ hov, fun h0 => absurd h0 eleven_ne⟩
  have hn1 : n < 18446744073709551615 := by omega
  by_cases h2 : 800 < tx.length
  · obtain rfl : w = (1, SYZ, []) := by rw [← hw]; exact (if_neg hok).trans ((if_neg ht).trans ((if_neg hov).trans (if_pos h2)))
    exact ⟨fun _ => ee true 1 (by decide) fun _ va ha ht => dused_err_seal k n va vt hn1 1 (by decide) (dseal_big2 k (nonU n) va vt (ky h) tx ha ht (by simp) h2), fun h0 => absurd h0 onn_ne⟩
  obtain rfl : w = (0, (true, k, n + 1, ch, hx h (sealL k (nonU n) (ky h) tx)), sealL k (nonU n) (ky h) tx) := by rw [← hw]; exact (if_neg hok).trans ((if_neg ht).trans ((if_neg hov).trans (if_neg h2)))
  exact ⟨fun h0 => absurd rfl h0, fun _ => (dsSeal_ok (G := G) true k n ch h vt tx (sealL k (nonU n) (ky h) tx) hv2 (sealL_lt _ _ _ _) (by rw [sealL_len]; omega) hh true k (n + 1) (fun G2 va ha ht => dcseal_ok true k n va vt true k (n + 1) _ (by rw [sealL_len]; simp only [maxLen]; omega) (dused_ok_seal k n va vt hn1 _ (by rw [sealL_len]; simp only [maxLen]; omega) (dseal_ok k (nonU n) va vt (ky h) tx hk (nonU_lt n) ha ht (ky_lt hh) (by simp) (by omega))))).wide (in1 hO)⟩
theorem dopenA {G : Mem} (hO : DOR ∈ G) (y : SY) (hy : okY y) (vt : Value) (tx : List Nat) (hvt : Shows G 1 vt tx.length (tx.map by8)) (htb : ∀ b ∈ tx, b < 256) (w : Nat × SY × List Nat) (hw : openP y tx = w) :
    (w.1 ≠ 0 → Fn Tryz.prog G 125 #[SVy y, vt] (.tuple #[SVy w.2.1, nilS, ii w.1])) ∧ (w.1 = 0 → Fx Tryz.prog G [] 125 #[SVy y, vt] (fun v l1 nw => l1 = [] ∧ ∃ v', v = .tuple #[SVy w.2.1, v', ii 0] ∧ OwnS 5 1 v' w.2.2.length (w.2.2.map by8) nw)) := by
  obtain ⟨has, k, n, ch, h⟩ := y
  obtain ⟨hk, hn, hc, hh⟩ := hy
  have hv2 : Shows (DOR :: G) 1 vt tx.length (tx.map by8) := hvt.mono fun _ hx => List.mem_cons_of_mem _ hx
  have hk : ∀ j, j < 32 → k j < 256 := hk
  have hn : n < 18446744073709551616 := hn
  have hh : ∀ j, j < 32 → h j < 256 := hh
  have ee : ∀ (has : Bool) (e : Nat), e ≠ 0 → (∀ (G2 : Mem) (va : Value), Shows G2 1 va (ky h).length ((ky h).map by8) → Shows G2 1 vt tx.length (tx.map by8) → Fn Tryz.prog G2 217 #[CV has k n, va, vt, .func (.func 223) #[] #[]] (.tuple #[CZ, nilS, ii e])) → Fn Tryz.prog G 125 #[SV has k n ch h, vt] (.tuple #[SVy SYZ, nilS, ii e]) := fun has e he hU =>
    (dsOpen_err (G := G) has k n ch h vt tx hv2 e he (fun G2 va ha ht => dcopen_err has k n va vt e (hU G2 va ha ht))).more (in1 hO)
  by_cases hok : okC has k n = false
  · obtain rfl : w = (9, SYZ, []) := by rw [← hw]; exact if_pos hok
    exact ⟨fun _ => ee has 9 (by decide) fun _ va _ _ => dused_bad has k n va vt _ hok, fun h0 => absurd h0 nin_ne⟩
  have hok2 : okC has k n = true := by simpa using hok
  cases has
  · by_cases hl : 800 < tx.length
    · obtain rfl : w = (1, SYZ, []) := by rw [← hw]; exact (if_neg hok).trans ((if_pos rfl).trans (if_pos hl))
      exact ⟨fun _ => ee false 1 (by decide) fun _ va _ ht => dused_pbig k n va vt _ tx ht hok2 hl, fun h0 => absurd h0 onn_ne⟩
    · obtain rfl : w = (0, hashP (false, k, n, ch, h) tx, tx) := by rw [← hw]; exact (if_neg hok).trans ((if_pos rfl).trans (if_neg hl))
      exact ⟨fun h0 => absurd rfl h0, fun _ => (dsOpen_ok (G := G) false k n ch h vt tx tx hv2 htb (by omega) (by omega) hh false k n (fun G2 va _ ht => dcopen_ok false k n va vt false k n tx (by simp only [maxLen]; omega) (dused_plain k n va vt _ tx ht hok2 (by omega)))).wide (in1 hO)⟩
  have ht : ¬ true = false := by decide
  by_cases hov : n = 18446744073709551615
  · obtain rfl : w = (11, SYZ, []) := by rw [← hw]; exact (if_neg hok).trans ((if_neg ht).trans (if_pos hov))
    exact ⟨fun _ => ee true 11 (by decide) fun _ va _ _ => dused_over k n va vt _ hov, fun h0 => absurd h0 eleven_ne⟩
  have hn1 : n < 18446744073709551615 := by omega
  by_cases h2 : 816 < tx.length
  · obtain rfl : w = (1, SYZ, []) := by rw [← hw]; exact (if_neg hok).trans ((if_neg ht).trans ((if_neg hov).trans (if_pos h2)))
    exact ⟨fun _ => ee true 1 (by decide) fun _ va ha ht => dused_err_open k n va vt hn1 1 (by decide) (dopen_big2 k (nonU n) va vt (ky h) tx ha ht (by simp) h2), fun h0 => absurd h0 onn_ne⟩
  by_cases h3 : tx.length < 16
  · obtain rfl : w = (4, SYZ, []) := by rw [← hw]; exact (if_neg hok).trans ((if_neg ht).trans ((if_neg hov).trans ((if_neg h2).trans (if_pos h3))))
    exact ⟨fun _ => ee true 4 (by decide) fun _ va ha ht => dused_err_open k n va vt hn1 4 (by decide) (dopen_short k (nonU n) va vt (ky h) tx ha ht (by simp) h3), fun h0 => absurd h0 four_ne⟩
  by_cases ho : opensL k (nonU n) (ky h) tx
  · obtain rfl : w = (0, (true, k, n + 1, ch, hx h tx), openL k (nonU n) tx) := by rw [← hw]; exact (if_neg hok).trans ((if_neg ht).trans ((if_neg hov).trans ((if_neg h2).trans ((if_neg h3).trans (if_pos ho)))))
    exact ⟨fun h0 => absurd rfl h0, fun _ => (dsOpen_ok (G := G) true k n ch h vt tx (openL k (nonU n) tx) hv2 htb (by omega) (by rw [openL_len]; omega) hh true k (n + 1) (fun G2 va ha ht => dcopen_ok true k n va vt true k (n + 1) _ (by rw [openL_len]; simp only [maxLen]; omega) (dused_ok_open k n va vt hn1 _ (by rw [openL_len]; simp only [maxLen]; omega) (dopen_ok k (nonU n) va vt (ky h) tx hk (nonU_lt n) ha ht (ky_lt hh) htb (by simp) (by omega) (by omega) ho)))).wide (in1 hO)⟩
  · obtain rfl : w = (10, SYZ, []) := by rw [← hw]; exact (if_neg hok).trans ((if_neg ht).trans ((if_neg hov).trans ((if_neg h2).trans ((if_neg h3).trans (if_neg ho)))))
    exact ⟨fun _ => ee true 10 (by decide) fun _ va ha ht => dused_err_open k n va vt hn1 10 (by decide) (dopen_auth k (nonU n) va vt (ky h) tx hk (nonU_lt n) ha ht (ky_lt hh) htb (by simp) (by omega) (by omega) ho), fun h0 => absurd h0 ten_ne⟩
variable {G : Mem}
end Go.Proofs.YthljakcegoohlaaGreatDoor
namespace Go.Proofs.YthljakcegoohlaaGreatDoor
open Go Go.RowKit
variable {G : Mem}
set_option maxHeartbeats 2000000 in
theorem dshseal_ok (hO : DOR ∈ G) (b : List Nat) (l : Bool) (vp v0 v1 vt : Value) (fi : Bool) (tn : Int) (dd : Bool) (y : SY) (r : RS) (ow : Nat → Nat) (vk : Value) (us : Int) (h1 : ones vp v0 v1 vt vk) (hy : okY y) (vx : Value) (tx : List Nat) (hvt : Sh G vx tx) (htb : ∀ b ∈ tx, b < 256) (w : Nat × SY × List Nat) (hw : sealP y tx = w) (htl : tx.length ≤ 100000) (he : w.1 = 0) : Fx Tryz.prog G [] 69 #[.agg (shC b l vp v0 v1 vt fi tn dd y ow r vk us), vx] (fun v l1 nw => l1 = [] ∧ ∃ v', v = .tuple #[.agg (shC b l vp v0 v1 vt fi tn dd w.2.1 ow r vk us), v', ii 0] ∧ OwnS 5 1 v' w.2.2.length (w.2.2.map by8) nw) := by
  have hwl : w.2.2.length ≤ tx.length + 16 := by rw [← hw]; have := sealP_len y tx; omega
  refine QfO Tryz.func69 ?_
  refine Qs<|Qp<|(Qh 0) fun r1=>(QH 1) fun r2=>(Qa)<|(Qa)<|Qn<|Qs<|QR ⟨[], 4, [], none⟩<|(Qf 9) ?_
  refine e_ldK (i := 0) 9 5 (Uu 35 rfl) rfl (Uz 35 rfl) rfl rfl rfl rfl (by decide) rfl ⟨[], trivial⟩ ?_
  refine e_as (show _ = SVy y from rfl) ?_
  refine (Qm) ?_
  refine e_callN 2 (fun v => .tuple #[SVy w.2.1, v, ii 0]) rfl rfl (Un 116) seenG ((dsealA hO y hy vx tx hvt htb w hw).2 he) (by simp only [maxLen]; omega) (by rw [List.length_map, Nat.mul_one]) rfl rfl fun v1_1 oz1_1 ho1_1 => ?_
  refine (Qm)<|(Qx)<|(Qx)<|(Qx)<|(QH 3) fun r4=>?_
  refine e_storeA (i := 3) (Uz 35) rfl rfl (arrv_size _ _) (cells_one ⟨fun _ => rfl, fun _ => rfl, fun _ => rfl, fun _ => rfl, fun _ => rfl, trivial⟩) rfl cells_sz (.inl rfl) ?_
  refine (Qa)<|(Qa)<|Qn<|Qs<|Qp<|(QD 3)<|(Qf 9) ?_
  refine e_stK (i := 0) 9 5 (Uz 35 rfl) rfl rfl ⟨fun _ => rfl, fun _ => rfl, fun _ => rfl, fun _ => rfl, fun _ => rfl, trivial⟩ rfl rfl rfl rfl (by decide) (.inl rfl) ?_
  refine e_blk (c' := shC b l vp v0 v1 vt fi tn dd w.2.1 ow r vk us) rfl ?_
  refine Qn<|Qs<|Qp<|(QD 0)<|(Qm)<|(Qm) ?_
  refine e_storeA (i := 1) (Uz 37) rfl rfl (arrv_size _ _) (cells_one ⟨fun _ => rfl, fun _ => rfl, fun _ => h1.1, fun _ => h1.2.1, fun _ => h1.2.2.1, fun _ => h1.2.2.2.1, fun _ => rfl, fun _ => rfl, fun _ => rfl, fun _ => rfl, fun _ => rfl, fun _ => rfl, fun _ => rfl, fun _ => rfl, fun _ => rfl, fun _ => rfl, fun _ => rfl, fun _ => rfl, fun _ => rfl, fun _ => rfl, fun _ => rfl, fun _ => h1.2.2.2.2, fun _ => rfl, trivial⟩) rfl cells_sz (.inl rfl) ?_
  refine (Qa)<|(Qa)<|Qn<|Qr ?_
  exact ⟨_, _, _, _, _, 2, rfl, .cell (i := 1) rfl rfl (Uu 37) rfl (Uz 37) (arrv_size _ _), .tmp rfl, .tmp rfl, ho1_1, rfl⟩
set_option maxHeartbeats 2000000 in
theorem dshopen_err (hO : DOR ∈ G) (b : List Nat) (l : Bool) (vp v0 v1 vt : Value) (fi : Bool) (tn : Int) (dd : Bool) (y : SY) (r : RS) (ow : Nat → Nat) (vk : Value) (us : Int) (h1 : ones vp v0 v1 vt vk) (hy : okY y) (vx : Value) (tx : List Nat) (hvt : Sh G vx tx) (htb : ∀ b ∈ tx, b < 256) (w : Nat × SY × List Nat) (hw : openP y tx = w) (he : w.1 ≠ 0) : Fn Tryz.prog G 75 #[.agg (shC b l vp v0 v1 vt fi tn dd y ow r vk us), vx] (.tuple #[.agg (shC b l vp v0 v1 vt fi tn dd w.2.1 ow r vk us), nilS, ii w.1]) := by
  refine Qf3 Tryz.func75 ?_
  refine Qs<|Qp<|(Qh 0) fun r1=>(QH 1) fun r2=>(Qa)<|(Qa)<|Qn<|Qs<|Qp<|(Qf 9) ?_
  refine e_ldK (i := 0) 9 5 (Uu 35 rfl) rfl (Uz 35 rfl) rfl rfl rfl rfl (by decide) rfl ⟨[], trivial⟩ ?_
  refine e_as (show _ = SVy y from rfl) ?_
  refine (Qm) ?_
  refine e_call rfl (Un 125) ((dopenA hO y hy vx tx hvt htb w hw).1 he) rfl rfl ?_
  refine (Qm)<|(Qx)<|(Qx)<|(Qx)<|(QH 2) fun r3=>?_
  refine e_storeA (i := 2) (Uz 35) rfl rfl (arrv_size _ _) (cells_one ⟨fun _ => rfl, fun _ => rfl, fun _ => rfl, fun _ => rfl, fun _ => rfl, trivial⟩) rfl cells_sz (.inl rfl) ?_
  refine (Qa)<|(Qa)<|Qn<|Qs<|Qp<|(QD 2)<|(Qf 9) ?_
  refine e_stK (i := 0) 9 5 (Uz 35 rfl) rfl rfl ⟨fun _ => rfl, fun _ => rfl, fun _ => rfl, fun _ => rfl, fun _ => rfl, trivial⟩ rfl rfl rfl rfl (by decide) (.inl rfl) ?_
  refine e_blk (c' := shC b l vp v0 v1 vt fi tn dd w.2.1 ow r vk us) rfl ?_
  refine Qn<|Qs<|Qp<|(QD 0)<|(Qm)<|(Qm) ?_
  refine e_storeA (i := 1) (Uz 37) rfl rfl (arrv_size _ _) (cells_one ⟨fun _ => rfl, fun _ => rfl, fun _ => h1.1, fun _ => h1.2.1, fun _ => h1.2.2.1, fun _ => h1.2.2.2.1, fun _ => rfl, fun _ => rfl, fun _ => rfl, fun _ => rfl, fun _ => rfl, fun _ => rfl, fun _ => rfl, fun _ => rfl, fun _ => rfl, fun _ => rfl, fun _ => rfl, fun _ => rfl, fun _ => rfl, fun _ => rfl, fun _ => rfl, fun _ => h1.2.2.2.2, fun _ => rfl, trivial⟩) rfl cells_sz (.inl rfl) ?_
  refine (Qa)<|(Qa)<|Qn<|Qr ?_
  exact ⟨_, _, _, rfl, .cell (i := 1) rfl rfl (Uu 37) rfl (Uz 37) (arrv_size _ _), .tmp rfl, .tmp rfl⟩
set_option maxHeartbeats 2000000 in
theorem dshopen_ok (hO : DOR ∈ G) (b : List Nat) (l : Bool) (vp v0 v1 vt : Value) (fi : Bool) (tn : Int) (dd : Bool) (y : SY) (r : RS) (ow : Nat → Nat) (vk : Value) (us : Int) (h1 : ones vp v0 v1 vt vk) (hy : okY y) (vx : Value) (tx : List Nat) (hvt : Sh G vx tx) (htb : ∀ b ∈ tx, b < 256) (w : Nat × SY × List Nat) (hw : openP y tx = w) (htl : tx.length ≤ 100000) (he : w.1 = 0) : Fx Tryz.prog G [] 75 #[.agg (shC b l vp v0 v1 vt fi tn dd y ow r vk us), vx] (fun v l1 nw => l1 = [] ∧ ∃ v', v = .tuple #[.agg (shC b l vp v0 v1 vt fi tn dd w.2.1 ow r vk us), v', ii 0] ∧ OwnS 5 1 v' w.2.2.length (w.2.2.map by8) nw) := by
  have hwl : w.2.2.length ≤ tx.length + 16 := by rw [← hw]; have := openP_len y tx; omega
  refine QfO Tryz.func75 ?_
  refine Qs<|Qp<|(Qh 0) fun r1=>(QH 1) fun r2=>(Qa)<|(Qa)<|Qn<|Qs<|QR ⟨[], 4, [], none⟩<|(Qf 9) ?_
  refine e_ldK (i := 0) 9 5 (Uu 35 rfl) rfl (Uz 35 rfl) rfl rfl rfl rfl (by decide) rfl ⟨[], trivial⟩ ?_
  refine e_as (show _ = SVy y from rfl) ?_
  refine (Qm) ?_
  refine e_callN 2 (fun v => .tuple #[SVy w.2.1, v, ii 0]) rfl rfl (Un 125) seenG ((dopenA hO y hy vx tx hvt htb w hw).2 he) (by simp only [maxLen]; omega) (by rw [List.length_map, Nat.mul_one]) rfl rfl fun v1_1 oz1_1 ho1_1 => ?_
  refine (Qm)<|(Qx)<|(Qx)<|(Qx)<|(QH 3) fun r4=>?_
  refine e_storeA (i := 3) (Uz 35) rfl rfl (arrv_size _ _) (cells_one ⟨fun _ => rfl, fun _ => rfl, fun _ => rfl, fun _ => rfl, fun _ => rfl, trivial⟩) rfl cells_sz (.inl rfl) ?_
  refine (Qa)<|(Qa)<|Qn<|Qs<|Qp<|(QD 3)<|(Qf 9) ?_
  refine e_stK (i := 0) 9 5 (Uz 35 rfl) rfl rfl ⟨fun _ => rfl, fun _ => rfl, fun _ => rfl, fun _ => rfl, fun _ => rfl, trivial⟩ rfl rfl rfl rfl (by decide) (.inl rfl) ?_
  refine e_blk (c' := shC b l vp v0 v1 vt fi tn dd w.2.1 ow r vk us) rfl ?_
  refine Qn<|Qs<|Qp<|(QD 0)<|(Qm)<|(Qm) ?_
  refine e_storeA (i := 1) (Uz 37) rfl rfl (arrv_size _ _) (cells_one ⟨fun _ => rfl, fun _ => rfl, fun _ => h1.1, fun _ => h1.2.1, fun _ => h1.2.2.1, fun _ => h1.2.2.2.1, fun _ => rfl, fun _ => rfl, fun _ => rfl, fun _ => rfl, fun _ => rfl, fun _ => rfl, fun _ => rfl, fun _ => rfl, fun _ => rfl, fun _ => rfl, fun _ => rfl, fun _ => rfl, fun _ => rfl, fun _ => rfl, fun _ => rfl, fun _ => h1.2.2.2.2, fun _ => rfl, trivial⟩) rfl cells_sz (.inl rfl) ?_
  refine (Qa)<|(Qa)<|Qn<|Qr ?_
  exact ⟨_, _, _, _, _, 2, rfl, .cell (i := 1) rfl rfl (Uu 37) rfl (Uz 37) (arrv_size _ _), .tmp rfl, .tmp rfl, ho1_1, rfl⟩
end Go.Proofs.YthljakcegoohlaaGreatDoor
namespace Go.Proofs.YthljakcegoohlaaGreatDoor
open Go Go.RowKit
variable {G : Mem}
end Go.Proofs.YthljakcegoohlaaGreatDoor
namespace Go.Proofs.YthljakcegoohlaaGreatDoor
open Go Go.RowKit
variable {G : Mem}
end Go.Proofs.YthljakcegoohlaaGreatDoor
namespace Go.Proofs.YthljakcegoohlaaGreatDoor
open Go Go.RowKit
variable {G : Mem}
end Go.Proofs.YthljakcegoohlaaGreatDoor
