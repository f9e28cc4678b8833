import Derived.Test.YthljakcegoohlaaGreatDoorKT8
set_option maxRecDepth 30000
namespace Go.Proofs.YthljakcegoohlaaGreatDoor
open Go Go.RowKit
theorem dmac7_at {G X : Mem} (vk vs : Value) (k s : List Nat) (hvk : Shows ((DOR :: G) ++ X) 1 vk k.length (k.map by8)) (hvs : Shows ((DOR :: G) ++ X) 1 vs s.length (s.map by8)) (hk : ∀ b ∈ k, b < 256) (hb : ∀ b ∈ s, b < 256) (hkm : k.length ≤ 1073741824) (hs : s.length ≤ 1073741760) : Fn Tryz.prog ((DOR :: G) ++ X) 178 #[vk, vs] (.agg (arr .u8 32 (mac k s))) :=
  dmac7_fn (G := G ++ X) vk vs k s hvk hvs hk hb hkm hs
theorem shows_b1 (r x : Nat) (t : TypeId) : Shows [⟨r, #[by8 x], t⟩] 1 (.slice (some ⟨r, 0, none⟩) 1 1) [x].length ([x].map by8) := shows_new (r := r) (len := 1) (z := 1) #[by8 x] t rfl
theorem fill_two (a b : Nat → Nat) : Instr.fill (fun i => some (i * 32, 32)) (arr .u8 64 fun _ => 0) [(0, .agg (arr .u8 32 a)), (1, .agg (arr .u8 32 b))] = some (arr .u8 64 (two2 a b)) := by kernel_rfl
theorem thr3_at0 (a b c : Nat → Nat) : ∀ j, j < 32 → thr3 a b c (0 + j) = a j := fun j hj => by rw [Nat.zero_add, thr3, if_pos hj]
theorem thr3_at1 (a b c : Nat → Nat) : ∀ j, j < 32 → thr3 a b c (32 + j) = b j := fun j hj => by rw [thr3, if_neg (by omega), if_pos (by omega), Nat.add_sub_cancel_left]
variable {G : Mem}
set_option maxHeartbeats 4000000 in
theorem dthree_fn (c : Nat → Nat) (v : Value) (s : List Nat) (hc : L8 32 c) (hv : Shows (DOR :: G) 1 v s.length (s.map by8)) (hb : ∀ b ∈ s, b < 256) (hs : s.length ≤ 1073741760) : Fn Tryz.prog (DOR :: G) 129 #[.agg (arr .u8 32 c), v] (.agg (arr .u8 96 (thr3 (kA c s) (kB c s) (kC c s)))) := by
  obtain ⟨f, hf⟩ : ∃ f, f = mac ((List.range 32).map c) s := ⟨_, rfl⟩
  have hT : kT c s = ((List.range 32).map f) := by rw [hf]; rfl
  have hfb : ∀ b ∈ ((List.range 32).map f), b < 256 := by rw [← hT]; exact kT_lt c s
  obtain ⟨fA, hA⟩ : ∃ x, x = kA c s := ⟨_, rfl⟩
  obtain ⟨fB, hB⟩ : ∃ x, x = kB c s := ⟨_, rfl⟩
  obtain ⟨fC, hC⟩ : ∃ x, x = kC c s := ⟨_, rfl⟩
  have eA : mac ((List.range 32).map f) [1] = fA := by rw [hA, kA, hT]
  have eB : mac ((List.range 32).map f) (((List.range 32).map fA) ++ [2]) = fB := by rw [hB, kB, hT, hA]
  have eC : mac ((List.range 32).map f) (((List.range 32).map fB) ++ [3]) = fC := by rw [hC, kC, hT, hB]
  have hfAb : ∀ b ∈ ((List.range 32).map fA), b < 256 := by rw [hA]; exact range_lt fun _ _ => mac_lt _ _ _
  have hfBb : ∀ b ∈ ((List.range 32).map fB), b < 256 := by rw [hB]; exact range_lt fun _ _ => mac_lt _ _ _
  rw [← hA, ← hB, ← hC]
  refine Qf1 Tryz.func129 ?_
  refine Qs<|Qp<|(Qh 0) fun r1=>(QH 1) fun r2=>Qn<|Qs<|Qp ?_
  refine e_sliceA 0 32 (Uu 30) (Uz 5) rfl rfl rfl rfl rfl (by omega) (by omega) (by omega) rfl ?_
  refine (Qm) ?_
  refine e_callS rfl rfl (Un 178) (seen_app seenG (seen1 0 rfl ⟨[], trivial⟩)) (dmac7_at (G := G) (X := [(⟨r1, arr .u8 32 c, 30⟩ : Blk)]) (.slice (some ⟨r1, 0, none⟩) 32 32) v ((List.range 32).map c) s (Shows.mono (shows32 r1 c 30) (fun x h => List.mem_append_right _ h)) (Shows.mono hv (fun x h => List.mem_append_left _ h)) (range_lt hc) hb (by simp) hs) rfl rfl ?_
  refine e_as (congrArg (fun f => Value.agg (arr .u8 32 f)) hf.symm) ?_
  refine (QH 2) fun r3=>(Qt 2)<|Qn<|Qs<|Qp ?_
  refine e_sliceA 0 32 (Uu 30) (Uz 5) rfl rfl rfl rfl rfl (by omega) (by omega) (by omega) rfl ?_
  refine e_buildSl 3 #[by8 1] (Uu 22 rfl) (Uz 5 rfl) (Ub 5 rfl) (by decide) (by decide) rfl (by kernel_rfl) rfl fun r4 => ?_
  refine e_callS rfl rfl (Un 178) (seen_app seenG (seen_app (seen1 2 rfl ⟨[], trivial⟩) (seen1 3 rfl ⟨[], trivial⟩))) (dmac7_at (G := G) (X := ([(⟨r3, arr .u8 32 f, 30⟩ : Blk)] ++ [(⟨r4, #[by8 1], 5⟩ : Blk)])) (.slice (some ⟨r3, 0, none⟩) 32 32) (.slice (some ⟨r4, 0, none⟩) 1 1) ((List.range 32).map f) [1] (Shows.mono (shows32 r3 f 30) (fun x h => List.mem_append_right _ (List.mem_append_left _ h))) (Shows.mono (shows_b1 r4 1 5) (fun x h => List.mem_append_right _ (List.mem_append_right _ h))) hfb (by decide) (by simp) (by decide)) rfl rfl ?_
  refine e_as (congrArg (fun f => Value.agg (arr .u8 32 f)) eA) ?_
  refine (QH 4) fun r5=>(Qt 4)<|Qn<|Qs<|(Qq ⟨[], 4, [], none⟩) ?_
  refine e_sliceA 0 32 (Uu 30) (Uz 5) rfl rfl rfl rfl rfl (by omega) (by omega) (by omega) rfl ?_
  refine e_sliceA 0 32 (Uu 30) (Uz 5) rfl rfl rfl rfl rfl (by omega) (by omega) (by omega) rfl ?_
  refine e_buildSl 5 #[by8 2] (Uu 22 rfl) (Uz 5 rfl) (Ub 5 rfl) (by decide) (by decide) rfl (by kernel_rfl) rfl fun r6 => ?_
  refine e_buildSl 6 [(.slice (some ⟨r5, 0, none⟩) 32 32), (.slice (some ⟨r6, 0, none⟩) 1 1)].toArray (Uu 198 rfl) (Uz 22 rfl) (Ub 22 rfl) (by decide) (by decide) rfl (fill_ones [(.slice (some ⟨r5, 0, none⟩) 32 32), (.slice (some ⟨r6, 0, none⟩) 1 1)] 0 _ (by intro v hv; simp only [List.mem_cons, List.not_mem_nil, or_false] at hv; rcases hv with rfl | rfl; exact rfl; exact rfl) (by simp)) rfl fun r7 => ?_
  refine e_callN 7 (fun v => v) rfl rfl (Un 179) (seen_app seenG (seen_app (seen1 4 rfl ⟨[], trivial⟩) (seen_app (seen1 5 rfl ⟨[], trivial⟩) (seen1 6 rfl ⟨[], trivial⟩)))) (djoined2 (G := ((DOR :: G) ++ ([(⟨r5, arr .u8 32 fA, 30⟩ : Blk)] ++ ([(⟨r6, #[by8 2], 5⟩ : Blk)] ++ [(⟨r7, [(.slice (some ⟨r5, 0, none⟩) 32 32), (.slice (some ⟨r6, 0, none⟩) 1 1)].toArray, 22⟩ : Blk)])))) r7 (.slice (some ⟨r5, 0, none⟩) 32 32) (.slice (some ⟨r6, 0, none⟩) 1 1) ((List.range 32).map fA) [2] (Shows.mono (shows32 r5 fA 30) (fun x h => (List.mem_append_right _ (List.mem_append_left _ h)))) (Shows.mono (shows_b1 r6 2 5) (fun x h => (List.mem_append_right _ (List.mem_append_right _ (List.mem_append_left _ h))))) (List.mem_append_right _ (List.mem_append_right _ (List.mem_append_right _ (List.mem_singleton.2 rfl)))) (by simp)) (by simp [maxLen]) (by rw [List.length_map, Nat.mul_one]) rfl rfl fun v1_1 oz1_1 ho1_1 => ?_
  refine e_callS rfl rfl (Un 178) (seen_app seenG (seen_app (seen1 2 rfl ⟨[], trivial⟩) (seenM 7 rfl ⟨[], trivial⟩))) (dmac7_at (G := G) (X := ([(⟨r3, arr .u8 32 f, 30⟩ : Blk)] ++ oz1_1.toList)) (.slice (some ⟨r3, 0, none⟩) 32 32) v1_1 ((List.range 32).map f) (((List.range 32).map fA) ++ [2]) (Shows.mono (shows32 r3 f 30) (fun x h => List.mem_append_right _ (List.mem_append_left _ h))) (Shows.mono (own_bytes ho1_1) (fun x h => List.mem_append_right _ (List.mem_append_right _ h))) hfb (app_lt hfAb (by decide)) (by simp) (by simp)) rfl rfl ?_
  refine e_as (congrArg (fun f => Value.agg (arr .u8 32 f)) eB) ?_
  refine (QH 8) fun r9=>(Qt 8)<|Qn<|Qs<|(Qq ⟨[], 4, [], none⟩) ?_
  refine e_sliceA 0 32 (Uu 30) (Uz 5) rfl rfl rfl rfl rfl (by omega) (by omega) (by omega) rfl ?_
  refine e_sliceA 0 32 (Uu 30) (Uz 5) rfl rfl rfl rfl rfl (by omega) (by omega) (by omega) rfl ?_
  refine e_buildSl 9 #[by8 3] (Uu 22 rfl) (Uz 5 rfl) (Ub 5 rfl) (by decide) (by decide) rfl (by kernel_rfl) rfl fun r10 => ?_
  refine e_buildSl 10 [(.slice (some ⟨r9, 0, none⟩) 32 32), (.slice (some ⟨r10, 0, none⟩) 1 1)].toArray (Uu 198 rfl) (Uz 22 rfl) (Ub 22 rfl) (by decide) (by decide) rfl (fill_ones [(.slice (some ⟨r9, 0, none⟩) 32 32), (.slice (some ⟨r10, 0, none⟩) 1 1)] 0 _ (by intro v hv; simp only [List.mem_cons, List.not_mem_nil, or_false] at hv; rcases hv with rfl | rfl; exact rfl; exact rfl) (by simp)) rfl fun r11 => ?_
  refine e_callN 11 (fun v => v) rfl rfl (Un 179) (seen_app seenG (seen_app (seen1 8 rfl ⟨[], trivial⟩) (seen_app (seen1 9 rfl ⟨[], trivial⟩) (seen1 10 rfl ⟨[], trivial⟩)))) (djoined2 (G := ((DOR :: G) ++ ([(⟨r9, arr .u8 32 fB, 30⟩ : Blk)] ++ ([(⟨r10, #[by8 3], 5⟩ : Blk)] ++ [(⟨r11, [(.slice (some ⟨r9, 0, none⟩) 32 32), (.slice (some ⟨r10, 0, none⟩) 1 1)].toArray, 22⟩ : Blk)])))) r11 (.slice (some ⟨r9, 0, none⟩) 32 32) (.slice (some ⟨r10, 0, none⟩) 1 1) ((List.range 32).map fB) [3] (Shows.mono (shows32 r9 fB 30) (fun x h => (List.mem_append_right _ (List.mem_append_left _ h)))) (Shows.mono (shows_b1 r10 3 5) (fun x h => (List.mem_append_right _ (List.mem_append_right _ (List.mem_append_left _ h))))) (List.mem_append_right _ (List.mem_append_right _ (List.mem_append_right _ (List.mem_singleton.2 rfl)))) (by simp)) (by simp [maxLen]) (by rw [List.length_map, Nat.mul_one]) rfl rfl fun v1_2 oz1_2 ho1_2 => ?_
  refine e_callS rfl rfl (Un 178) (seen_app seenG (seen_app (seen1 2 rfl ⟨[], trivial⟩) (seenM 11 rfl ⟨[], trivial⟩))) (dmac7_at (G := G) (X := ([(⟨r3, arr .u8 32 f, 30⟩ : Blk)] ++ oz1_2.toList)) (.slice (some ⟨r3, 0, none⟩) 32 32) v1_2 ((List.range 32).map f) (((List.range 32).map fB) ++ [3]) (Shows.mono (shows32 r3 f 30) (fun x h => List.mem_append_right _ (List.mem_append_left _ h))) (Shows.mono (own_bytes ho1_2) (fun x h => List.mem_append_right _ (List.mem_append_right _ h))) hfb (app_lt hfBb (by decide)) (by simp) (by simp)) rfl rfl ?_
  refine e_as (congrArg (fun f => Value.agg (arr .u8 32 f)) eC) ?_
  refine (QH 12) fun r13=>(Qt 12)<|Qn<|Qs<|Qp<|(Qd 4)<|(Qd 8)<|(Qd 12) ?_
  refine e_buildZ (arr .u8 96 (thr3 fA fB fC)) (Ub 102 rfl) (Uu 102 rfl) (Uz 30 rfl) rfl (fill_three fA fB fC) rfl ?_
  refine (Qt 1)<|Qn<|Qr ?_
  exact ⟨_, rfl, .cell (i := 1) rfl rfl (Uu 102) rfl (Uz 102) (arr_size _ _ _)⟩
set_option maxHeartbeats 4000000 in
theorem dtwo_fn (c : Nat → Nat) (v : Value) (s : List Nat) (hc : L8 32 c) (hv : Shows (DOR :: G) 1 v s.length (s.map by8)) (hb : ∀ b ∈ s, b < 256) (hs : s.length ≤ 1073741760) : Fn Tryz.prog (DOR :: G) 81 #[.agg (arr .u8 32 c), v] (.agg (arr .u8 64 (two2 (kA c s) (kB c s)))) := by
  have h3 := dthree_fn (G := G) c v s hc hv hb hs
  obtain ⟨fA, hA⟩ : ∃ x, x = kA c s := ⟨_, rfl⟩
  obtain ⟨fB, hB⟩ : ∃ x, x = kB c s := ⟨_, rfl⟩
  obtain ⟨fC, hC⟩ : ∃ x, x = kC c s := ⟨_, rfl⟩
  rw [← hA, ← hB, ← hC] at h3
  rw [← hA, ← hB]
  refine Qf1 Tryz.func81 ?_
  refine Qs<|Qp<|(Qh 0) fun r1=>(QH 1) fun r2=>Qn<|Qs<|Qp<|(Qd 0)<|(Qm) ?_
  refine e_call rfl (Un 129) h3 rfl rfl ?_
  refine (QH 2) fun r3=>(Qt 2)<|Qn<|Qs<|Qp<|(QA 0 0) ?_
  refine e_loadS (i := 2) (Uu 30) rfl (Uz 30) rfl rfl (by omega) rfl ⟨[], trivial⟩ ?_
  refine e_as (congrArg Value.agg (arr_congr (thr3_at0 fA fB fC))) ?_
  refine (QA 32 1) ?_
  refine e_loadS (i := 2) (Uu 30) rfl (Uz 30) rfl rfl (by omega) rfl ⟨[], trivial⟩ ?_
  refine e_as (congrArg Value.agg (arr_congr (thr3_at1 fA fB fC))) ?_
  refine e_buildZ (arr .u8 64 (two2 fA fB)) (Ub 119 rfl) (Uu 119 rfl) (Uz 30 rfl) rfl (fill_two fA fB) rfl ?_
  refine (Qt 1)<|Qn<|Qr ?_
  exact ⟨_, rfl, .cell (i := 1) rfl rfl (Uu 119) rfl (Uz 119) (arr_size _ _ _)⟩
end Go.Proofs.YthljakcegoohlaaGreatDoor
namespace Go.Proofs.YthljakcegoohlaaGreatDoor
open Go Go.RowKit
theorem dconcat2 {G : Mem} (r : Nat) (v1 v2 : Value) (a b : List Nat) (h1 : Shows G 1 v1 a.length (a.map by8)) (h2 : Shows G 1 v2 b.length (b.map by8)) (hr : (⟨r, [v1, v2].toArray, 22⟩ : Blk) ∈ G) (hm : a.length + b.length ≤ 1099511627776) :
    Fx Tryz.prog G [] 92 #[.slice (some ⟨r, 0, none⟩) 2 2] (fun v l1 nw => l1 = [] ∧ ∃ v', v = v' ∧ OwnS 5 1 v' (a ++ b).length ((a ++ b).map by8) nw) := by
  have h := concat_fn (G := G) (.slice (some ⟨r, 0, none⟩) 2 2) [v1, v2] [a, b] ((shows_new (r := r) (len := 2) (z := 1) [v1, v2].toArray 22 rfl).mono (fun x hx => by simp at hx; subst hx; exact hr)) (showsL_cons h1 (showsL_cons h2 (showsL_nil _))) (Nat.le_of_ble_eq_true rfl) (by simp; omega)
  have e : [a, b].flatten = a ++ b := by simp
  rw [e] at h
  exact h
theorem two_at0 (a b : Nat → Nat) : ∀ j, j < 32 → two2 a b (0 + j) = a j := fun j hj => by rw [Nat.zero_add, two2, if_pos hj]
theorem two_at1 (a b : Nat → Nat) : ∀ j, j < 32 → two2 a b (32 + j) = b j := fun j hj => by rw [two2, if_neg (by omega), Nat.add_sub_cancel_left]
theorem shows_thr1 (r : Nat) (a b c : Nat → Nat) (t : TypeId) : Shows [⟨r, arr .u8 96 (thr3 a b c), t⟩] 1 (.slice (some ⟨r, 32, none⟩) 32 32) ((List.range 32).map b).length (((List.range 32).map b).map by8) := by
  have h := arr_shows r 96 (thr3 a b c) t 32 32 32 (by decide) (by decide)
  have e : (List.range 32).map (fun j => thr3 a b c (32 + j)) = (List.range 32).map b := List.map_congr_left fun j hj => thr3_1 a b c j (List.mem_range.1 hj)
  rw [e] at h
  exact h
variable {G : Mem}
set_option maxHeartbeats 2000000 in
theorem dfn_short (l : List Nat) (hb : ∀ b ∈ l, b < 256) (h : ¬ 32 < l.length) : Fn Tryz.prog (DOR :: G) 57 #[sv l] (.agg (arr .u8 32 (sbeg l))) := by
  obtain ⟨g, hg⟩ : ∃ g, g = sbeg l := ⟨_, rfl⟩
  rw [← hg]
  refine Qf1 Tryz.func57 ?_
  refine Qs<|Qp<|(QH 0) fun r1=>Qn<|Qs<|Qp<|(QH 1) fun r2=>Qn<|Qs<|Qs<|Qp<|(Qm)<|(QU)<|(QG)<|(Qaf)<|Qn<|(Qcf)<|Qk<|Qs<|Qp ?_
  refine e_sliceA 0 32 (Uu 30) (Uz 5) rfl rfl rfl rfl rfl (by omega) (by omega) (by omega) rfl ?_
  refine (Qm) ?_
  refine e_copyStr (i := 1) (Uu 22) (Uz 5) rfl rfl hb rfl (by omega) rfl ?_
  refine Qn<|Qs<|Qp<|(Qd 1) ?_
  refine e_as (congrArg Value.agg (arr_congr (fun j hj => (key_pad l j hj).trans (show l.getD j 0 = g j by rw [hg, sbeg_short h])))) ?_
  refine (Qt 0)<|Qn<|Qr ?_
  exact ⟨_, rfl, .cell (i := 0) rfl rfl (Uu 30) rfl (Uz 30) (arr_size _ _ _)⟩
set_option maxHeartbeats 2000000 in
theorem dfn_long (l : List Nat) (hb : ∀ b ∈ l, b < 256) (h : 32 < l.length) (hz : l.length ≤ 1073741824) : Fn Tryz.prog (DOR :: G) 57 #[sv l] (.agg (arr .u8 32 (sbeg l))) := by
  obtain ⟨g, hg⟩ : ∃ g, g = sbeg l := ⟨_, rfl⟩
  rw [← hg]
  refine Qf1 Tryz.func57 ?_
  refine Qs<|Qp<|(QH 0) fun r1=>Qn<|Qs<|Qp<|(QH 1) fun r2=>Qn<|Qs<|Qs<|Qp<|(Qm)<|(QU)<|(QG)<|(Qat)<|Qn<|(Qct)<|Qs<|QR ⟨[], 1, [22], none⟩<|(Qm) ?_
  refine e_conv_own 2 (Uu 9) (Uu 22) (Uu 5) rfl hb (by simp only [maxLen]; omega) rfl rfl fun v2_1 oz2_1 ho2_1 => ?_
  refine e_callS rfl rfl (Un 91) (seen_app seenG (seenM 2 rfl ⟨[], trivial⟩)) (dsum7 (G := G) (X := oz2_1.toList) _ l (own_bytes ho2_1) hb hz) rfl rfl ?_
  refine e_as (congrArg (fun f => Value.agg (arr .u8 32 f)) (show bsum l = g by rw [hg, sbeg_long h])) ?_
  refine (Qt 0)<|Qn<|Qr ?_
  exact ⟨_, rfl, .cell (i := 0) rfl rfl (Uu 30) rfl (Uz 30) (arr_size _ _ _)⟩
set_option maxHeartbeats 2000000 in
theorem dbehind_fn (h : Nat → Nat) (v : Value) (l : List Nat) (hh : L8 32 h) (hv : Shows (DOR :: G) 1 v l.length (l.map by8)) (hb : ∀ b ∈ l, b < 256) (hz : l.length ≤ 1073741792) : Fn Tryz.prog (DOR :: G) 56 #[.agg (arr .u8 32 h), v] (.agg (arr .u8 32 (hx h l))) := by
  refine Qf1 Tryz.func56 ?_
  refine Qs<|Qp<|(Qh 0) fun r1=>(QH 1) fun r2=>Qn<|Qs<|QR ⟨[], 4, [], none⟩ ?_
  refine e_sliceA 0 32 (Uu 30) (Uz 5) rfl rfl rfl rfl rfl (by omega) (by omega) (by omega) rfl ?_
  refine (Qm) ?_
  refine e_buildSl 2 [(.slice (some ⟨r1, 0, none⟩) 32 32), v].toArray (Uu 198 rfl) (Uz 22 rfl) (Ub 22 rfl) (by decide) (by decide) rfl (fill_ones [(.slice (some ⟨r1, 0, none⟩) 32 32), v] 0 _ (by intro v hv; simp only [List.mem_cons, List.not_mem_nil, or_false] at hv; rcases hv with rfl | rfl; exact rfl; exact (shows_one hv)) (by simp)) rfl fun r3 => ?_
  refine e_callN 3 (fun v => v) rfl rfl (Un 92) (seen_app seenG (seen_app (seen1 0 rfl ⟨[], trivial⟩) (seen1 2 rfl ⟨[], trivial⟩))) (dconcat2 (G := ((DOR :: G) ++ ([(⟨r1, arr .u8 32 h, 30⟩ : Blk)] ++ [(⟨r3, [(.slice (some ⟨r1, 0, none⟩) 32 32), v].toArray, 22⟩ : Blk)]))) r3 (.slice (some ⟨r1, 0, none⟩) 32 32) v ((List.range 32).map h) l (Shows.mono (shows32 r1 h 30) (fun x h => (List.mem_append_right _ (List.mem_append_left _ h)))) (Shows.mono hv (fun x h => (List.mem_append_left _ h))) (List.mem_append_right _ (List.mem_append_right _ (List.mem_singleton.2 rfl))) (by simp; omega)) (by simp [maxLen]; omega) (by rw [List.length_map, Nat.mul_one]) rfl rfl fun v1_1 oz1_1 ho1_1 => ?_
  refine e_callS rfl rfl (Un 91) (seen_app seenG (seenM 3 rfl ⟨[], trivial⟩)) (dsum7 (G := G) (X := oz1_1.toList) v1_1 (((List.range 32).map h) ++ l) (own_bytes ho1_1) (apps_lt (range_lt hh) hb) (by simp; omega)) rfl rfl ?_
  refine (Qt 1)<|Qn<|Qr ?_
  exact ⟨_, rfl, .cell (i := 1) rfl rfl (Uu 30) rfl (Uz 30) (arr_size _ _ _)⟩
end Go.Proofs.YthljakcegoohlaaGreatDoor
namespace Go.Proofs.YthljakcegoohlaaGreatDoor
open Go Go.RowKit
theorem dfn_fn {G : Mem} (l : List Nat) (hb : ∀ b ∈ l, b < 256) (hz : l.length ≤ 1073741824) : Fn Tryz.prog (DOR :: G) 57 #[sv l] (.agg (arr .u8 32 (sbeg l))) := by
  by_cases h : 32 < l.length
  · exact dfn_long l hb h hz
  · exact dfn_short l hb h
variable {G : Mem}
set_option maxHeartbeats 2000000 in
theorem dbegin9_fn (l : List Nat) (hb : ∀ b ∈ l, b < 256) (hz : l.length ≤ 1073741824) : Fn Tryz.prog (DOR :: G) 27 #[sv l] (.agg (cells 98 [pV (.bool false), pI .u8 32 (fun _ => 0), pV (.int .u64 0), pI .u8 32 (sbeg l), pI .u8 32 (sbeg l)])) := by
  have hF := dfn_fn (G := G) l hb hz
  obtain ⟨g, hg⟩ : ∃ g, g = sbeg l := ⟨_, rfl⟩
  rw [← hg] at hF ⊢
  refine Qf1 Tryz.func27 ?_
  refine Qs<|Qp<|(QH 0) fun r1=>Qn<|Qs<|Qp<|(Qm) ?_
  refine e_call rfl (Un 57) hF rfl rfl ?_
  refine (QH 1) fun r2=>(Qt 1)<|Qn<|Qs<|Qp<|(Qd 1)<|(Qd 1) ?_
  refine e_buildS (cells 98 [pV (.bool false), pI .u8 32 (fun _ => 0), pV (.int .u64 0), pI .u8 32 g, pI .u8 32 g]) (Ub 35 rfl) (Uu 35 rfl) pls35 rfl (by kernel_rfl) rfl ?_
  refine e_storeA (i := 0) (Uz 35) rfl rfl (arrv_size _ _) (cells_one ⟨fun _ => rfl, fun _ => rfl, fun _ => rfl, fun _ => rfl, fun _ => rfl, trivial⟩) rfl cells_sz (.inl rfl) ?_
  refine Qn<|Qr ?_
  exact ⟨_, rfl, .cell (i := 0) rfl rfl (Uu 35) rfl (Uz 35) (arrv_size _ _)⟩
set_option maxHeartbeats 2000000 in
theorem dhash9_fn (has : Bool) (k : Nat → Nat) (n : Nat) (ch h : Nat → Nat) (v : Value) (l : List Nat) (hv : Shows (DOR :: G) 1 v l.length (l.map by8)) (hb : ∀ b ∈ l, b < 256) (hh : L8 32 h) (hz : l.length ≤ 1073741792) : Fn Tryz.prog (DOR :: G) 26 #[SV has k n ch h, v] (SV has k n ch (hx h l)) := by
  have hB := dbehind_fn (G := G) h v l hh hv hb hz
  obtain ⟨g, hg⟩ : ∃ g, g = hx h l := ⟨_, rfl⟩
  rw [← hg] at hB ⊢
  refine Qf1 Tryz.func26 ?_
  refine Qs<|Qp<|(Qh 0) fun r1=>(QH 1) fun r2=>Qn<|Qs<|Qp<|(Qf 66)<|(Qv 4 0)<|(Qm) ?_
  refine e_call rfl (Un 56) hB rfl rfl ?_
  refine (Qf 66) ?_
  refine e_stC (i := 0) 4 (Uz 30) rfl rfl rfl rfl (by decide) (.inl rfl) ?_
  refine Qn<|Qs<|Qp<|(QD 0) ?_
  refine e_as (show _ = SV has k n ch g from rfl) ?_
  refine e_storeA (i := 1) (Uz 35) rfl rfl (arrv_size _ _) (cells_one ⟨fun _ => rfl, fun _ => rfl, fun _ => rfl, fun _ => rfl, fun _ => rfl, trivial⟩) rfl cells_sz (.inl rfl) ?_
  refine Qn<|Qr ?_
  exact ⟨_, rfl, .cell (i := 1) rfl rfl (Uu 35) rfl (Uz 35) (arrv_size _ _)⟩
set_option maxHeartbeats 2000000 in
theorem dkey9_fn (has : Bool) (k : Nat → Nat) (n : Nat) (ch h : Nat → Nat) (v : Value) (l : List Nat) (hv : Shows (DOR :: G) 1 v l.length (l.map by8)) (hb : ∀ b ∈ l, b < 256) (hc : L8 32 ch) (hz : l.length ≤ 1073741760) : Fn Tryz.prog (DOR :: G) 195 #[SV has k n ch h, v] (SV true (kB ch l) 0 (kA ch l) h) := by
  have hT := dtwo_fn (G := G) ch v l hc hv hb hz
  obtain ⟨fa, hfa⟩ : ∃ fa, fa = kA ch l := ⟨_, rfl⟩
  obtain ⟨fb, hfb⟩ : ∃ fb, fb = kB ch l := ⟨_, rfl⟩
  rw [← hfa, ← hfb] at hT ⊢
  refine Qf1 Tryz.func195 ?_
  refine Qs<|Qp<|(Qh 0) fun r1=>(QH 1) fun r2=>Qn<|Qs<|Qp<|(Qf 34)<|(Qv 3 0)<|(Qm) ?_
  refine e_call rfl (Un 81) hT rfl rfl ?_
  refine (QH 2) fun r3=>(Qt 2)<|Qn<|Qs<|Qp<|(QA 0 0) ?_
  refine e_loadS (i := 2) (Uu 30) rfl (Uz 30) rfl rfl (by omega) rfl ⟨[], trivial⟩ ?_
  refine e_as (congrArg Value.agg (arr_congr (two_at0 fa fb))) ?_
  refine (Qf 34) ?_
  refine e_stC (i := 0) 3 (Uz 30) rfl rfl rfl rfl (by decide) (.inl rfl) ?_
  refine Qn<|Qs<|Qp<|(QA 32 1) ?_
  refine e_loadS (i := 2) (Uu 30) rfl (Uz 30) rfl rfl (by omega) rfl ⟨[], trivial⟩ ?_
  refine e_as (congrArg Value.agg (arr_congr (two_at1 fa fb))) ?_
  refine e_call rfl (Un 82) (dbeg8_fn fb) rfl rfl ?_
  refine (Qf 0) ?_
  refine e_stK (i := 0) 0 3 (Uz 33 rfl) rfl rfl ⟨fun _ => rfl, fun _ => rfl, fun _ => rfl, trivial⟩ rfl rfl rfl rfl (by decide) (.inl rfl) ?_
  refine Qn<|Qs<|Qp<|(QD 0) ?_
  refine e_as (show _ = SV true fb 0 fa h from rfl) ?_
  refine e_storeA (i := 1) (Uz 35) rfl rfl (arrv_size _ _) (cells_one ⟨fun _ => rfl, fun _ => rfl, fun _ => rfl, fun _ => rfl, fun _ => rfl, trivial⟩) rfl cells_sz (.inl rfl) ?_
  refine Qn<|Qr ?_
  exact ⟨_, rfl, .cell (i := 1) rfl rfl (Uu 35) rfl (Uz 35) (arrv_size _ _)⟩
end Go.Proofs.YthljakcegoohlaaGreatDoor
namespace Go.Proofs.YthljakcegoohlaaGreatDoor
open Go Go.RowKit
theorem dhash9_at {G X : Mem} (has : Bool) (k : Nat → Nat) (n : Nat) (ch h : Nat → Nat) (v : Value) (l : List Nat) (hv : Shows ((DOR :: G) ++ X) 1 v l.length (l.map by8)) (hb : ∀ b ∈ l, b < 256) (hh : ∀ j, j < 32 → h j < 256) (hz : l.length ≤ 1073741792) : Fn Tryz.prog ((DOR :: G) ++ X) 26 #[SV has k n ch h, v] (SV has k n ch (hx h l)) := dhash9_fn (G := G ++ X) has k n ch h v l hv hb hh hz
variable {G : Mem}
set_option maxHeartbeats 2000000 in
theorem dboth9_fn (has : Bool) (k : Nat → Nat) (n : Nat) (ch h : Nat → Nat) (v : Value) (l : List Nat) (hv : Shows (DOR :: G) 1 v l.length (l.map by8)) (hb : ∀ b ∈ l, b < 256) (hc : L8 32 ch) (hh : L8 32 h) (hz : l.length ≤ 1073741760) : Fn Tryz.prog (DOR :: G) 213 #[SV has k n ch h, v] (SV true (kC ch l) 0 (kA ch l) (hx h ((List.range 32).map (kB ch l)))) := by
  have hT := dthree_fn (G := G) ch v l hc hv hb hz
  obtain ⟨fa, hfa⟩ : ∃ fa, fa = kA ch l := ⟨_, rfl⟩
  obtain ⟨fb, hfb⟩ : ∃ fb, fb = kB ch l := ⟨_, rfl⟩
  obtain ⟨fc, hfc⟩ : ∃ fc, fc = kC ch l := ⟨_, rfl⟩
  have hfb2 : ∀ j, j < 32 → fb j < 256 := fun j _ => by rw [hfb]; exact mac_lt _ _ _
  obtain ⟨g, hg⟩ : ∃ g, g = hx h ((List.range 32).map (kB ch l)) := ⟨_, rfl⟩
  rw [← hfa, ← hfc, ← hg]
  rw [← hfa, ← hfb, ← hfc] at hT
  refine Qf1 Tryz.func213 ?_
  refine Qs<|Qp<|(Qh 0) fun r1=>(QH 1) fun r2=>Qn<|Qs<|Qp<|(Qf 34)<|(Qv 3 0)<|(Qm) ?_
  refine e_call rfl (Un 129) hT rfl rfl ?_
  refine (QH 2) fun r3=>(Qt 2)<|Qn<|Qs<|Qp<|(QA 0 0) ?_
  refine e_loadS (i := 2) (Uu 30) rfl (Uz 30) rfl rfl (by omega) rfl ⟨[], trivial⟩ ?_
  refine e_as (congrArg Value.agg (arr_congr (thr3_0 fa fb fc))) ?_
  refine (Qf 34) ?_
  refine e_stC (i := 0) 3 (Uz 30) rfl rfl rfl rfl (by decide) (.inl rfl) ?_
  refine Qn<|Qs<|(Qg)<|(QD 0) ?_
  refine e_as (show _ = SV has k n fa h from rfl) ?_
  refine (QA 32 1) ?_
  refine e_sliceA 0 32 (Uu 30) (Uz 5) rfl rfl rfl rfl rfl (by omega) (by omega) (by omega) rfl ?_
  refine e_callS rfl rfl (Un 26) (seen_app seenG (seen1 2 rfl ⟨[], trivial⟩)) (dhash9_at (G := G) (X := [(⟨r3, arr .u8 96 (thr3 fa fb fc), 102⟩ : Blk)]) has k n fa h _ ((List.range 32).map fb) (Shows.mono (shows_thr1 _ fa fb fc _) (fun x h => List.mem_append_right _ h)) (range_lt hfb2) hh (by simp)) rfl rfl ?_
  refine e_as (congrArg (fun f => SV has k n fa f) (show hx h ((List.range 32).map fb) = g by rw [hg, hfb])) ?_
  refine e_storeA (i := 0) (Uz 35) rfl rfl (arrv_size _ _) (cells_one ⟨fun _ => rfl, fun _ => rfl, fun _ => rfl, fun _ => rfl, fun _ => rfl, trivial⟩) rfl cells_sz (.inl rfl) ?_
  refine Qn<|Qs<|Qp<|(QA 64 2) ?_
  refine e_loadS (i := 2) (Uu 30) rfl (Uz 30) rfl rfl (by omega) rfl ⟨[], trivial⟩ ?_
  refine e_as (congrArg Value.agg (arr_congr (thr3_2 fa fb fc))) ?_
  refine e_call rfl (Un 82) (dbeg8_fn fc) rfl rfl ?_
  refine (Qf 0) ?_
  refine e_stK (i := 0) 0 3 (Uz 33 rfl) rfl rfl ⟨fun _ => rfl, fun _ => rfl, fun _ => rfl, trivial⟩ rfl rfl rfl rfl (by decide) (.inl rfl) ?_
  refine Qn<|Qs<|Qp<|(QD 0) ?_
  refine e_as (show _ = SV true fc 0 fa g from rfl) ?_
  refine e_storeA (i := 1) (Uz 35) rfl rfl (arrv_size _ _) (cells_one ⟨fun _ => rfl, fun _ => rfl, fun _ => rfl, fun _ => rfl, fun _ => rfl, trivial⟩) rfl cells_sz (.inl rfl) ?_
  refine Qn<|Qr ?_
  exact ⟨_, rfl, .cell (i := 1) rfl rfl (Uu 35) rfl (Uz 35) (arrv_size _ _)⟩
set_option maxHeartbeats 2000000 in
theorem dtold_fn (has : Bool) (k : Nat → Nat) (n : Nat) (ch h : Nat → Nat) (h2 : Bool) (k2 : Nat → Nat) (n2 : Nat) (v : Value) (l : List Nat) (hv : Shows (DOR :: G) 1 v l.length (l.map by8)) (hb : ∀ b ∈ l, b < 256) (hh : L8 32 h) (hz : l.length ≤ 1073741792) : Fn Tryz.prog (DOR :: G) 167 #[SV has k n ch h, CV h2 k2 n2, v] (SV h2 k2 n2 ch (hx h l)) := by
  refine Qf1 Tryz.func167 ?_
  refine Qs<|Qp<|(Qh 0) fun r1=>(Qh 1) fun r2=>(QH 2) fun r3=>Qn<|Qs<|Qp<|(QD 1) ?_
  refine e_as (show _ = CV h2 k2 n2 from rfl) ?_
  refine (Qf 0) ?_
  refine e_stK (i := 0) 0 3 (Uz 33 rfl) rfl rfl ⟨fun _ => rfl, fun _ => rfl, fun _ => rfl, trivial⟩ rfl rfl rfl rfl (by decide) (.inl rfl) ?_
  refine Qn<|Qs<|Qp<|(QD 0) ?_
  refine e_as (show _ = SV h2 k2 n2 ch h from rfl) ?_
  refine (Qm) ?_
  refine e_call rfl (Un 26) (dhash9_fn h2 k2 n2 ch h v l hv hb hh hz) rfl rfl ?_
  refine e_storeA (i := 2) (Uz 35) rfl rfl (arrv_size _ _) (cells_one ⟨fun _ => rfl, fun _ => rfl, fun _ => rfl, fun _ => rfl, fun _ => rfl, trivial⟩) rfl cells_sz (.inl rfl) ?_
  refine Qn<|Qr ?_
  exact ⟨_, rfl, .cell (i := 2) rfl rfl (Uu 35) rfl (Uz 35) (arrv_size _ _)⟩
end Go.Proofs.YthljakcegoohlaaGreatDoor
namespace Go.Proofs.YthljakcegoohlaaGreatDoor
open Go Go.RowKit
variable {G : Mem}
set_option maxHeartbeats 400000 in
theorem plus_fn (a b : Nat) (ha : a < 2 ^ 256) (hb : b < 2 ^ 256) : Fn Tryz.prog G 180 #[fe a, fe b] (.tuple #[fe ((a + b) % 2 ^ 256), u ((a + b) / 2 ^ 256)]) := by
  have hfin : car a b 4 = (a + b) / 2 ^ 256 := by
    unfold car
    rw [Nat.mod_eq_of_lt (show a < 2 ^ (64 * 4) from ha), Nat.mod_eq_of_lt (show b < 2 ^ (64 * 4) from hb)]
  refine Qf2 Tryz.func180 ?_
  refine Qs<|Qp<|(Qh 0) fun r1=>(Qh 1) fun r2=>(QH 2) fun r3=>(Qa)<|Qn<|Qs<|Qp<|(QH 3) fun r4=>Qn<|Qs<|Qp<|(Qa)<|Qn<|Qs<|Qs<|Qp<|(Qm)<|Qn<|Qb ?_
  refine Qz (fun kk E m => ∃ (k : Nat) (s : Nat → Nat), kk = 4 - k ∧ E = [(2, ptr r1), (3, ptr r2), (4, ptr r3), (6, ptr r4), (7, u (car a b k)), (9, ii k)] ∧ m = [(0, some ⟨r1, arr .u64 4 (wd a), 123⟩), (1, some ⟨r2, arr .u64 4 (wd b), 123⟩), (2, some ⟨r3, arr .u64 4 (fun _ => 0), 123⟩), (3, some ⟨r4, arr .u64 4 s, 123⟩)] ∧ (k ≤ 4) ∧ (∀ j, j < k → s j = wd (a + b) j)) ⟨0, fun _ => 0, rfl, rfl, rfl, by omega, fun j hj => absurd hj (Nat.not_lt_zero j)⟩ ⟨rfl, rfl, rfl, rfl, by rw [car_zero]; rfl, rfl, trivial⟩ ⟨rfl, rfl, rfl, rfl, trivial⟩ ?_
  rintro kk E m ⟨k, s, rfl, rfl, rfl, hf0_0, hf0_1⟩
  have hcl := car_le a b k
  refine Qs<|Qp<|(Ql)<|Qn<|Qs ?_
  refine e_cond rfl ?_ ?_
  · intro hc0
    have hc0 := of_decide_eq_true hc0
    refine Qk<|Qs<|Qb<|Qs<|Qp<|(Qm)<|(Qa)<|Qn<|(Qq ⟨[r4], 1, [], none⟩)<|(Qm)<|(Qm)<|(Qi) ?_
    refine e_load1 (i := 0) (Uu 31) rfl rfl rfl (arr_get (by omega)) rfl ⟨[3], rfl, rfl, trivial⟩ ?_
    refine (Qm)<|(Qi) ?_
    refine e_load1 (i := 1) (Uu 31) rfl rfl rfl (arr_get (by omega)) rfl ⟨[3], rfl, rfl, trivial⟩ ?_
    refine (Qm) ?_
    refine e_callE rfl (fun w => add64 _ _ _ (by omega) w) rfl rfl ?_
    refine (Qm)<|(Qx)<|(Qx)<|(Qi) ?_
    refine e_storeN (i := 3) (Uz 31) rfl rfl rfl (by omega) (.inr (by simp)) ?_
    refine (Qa)<|Qn<|Qp<|(Q2 1)<|(Qm)<|Qn ?_
    refine Qzr ⟨k + 1, upd s k _, rfl, rfl, rfl, by omega, upd_lt hf0_1 (car_word a b k)⟩ ⟨rfl, rfl, rfl, rfl, by rw [← car_next]; rfl, rfl, trivial⟩ ⟨rfl, rfl, rfl, rfl, trivial⟩ ?_
    omega
  · intro hc0
    have hc0 := of_decide_eq_false hc0
    refine Qe<|Qs<|Qp<|(Qd 3)<|(Qm)<|(Qt 2)<|(Qa)<|Qn<|Qr ?_
    have hk4 : k = 4 := by omega
    subst hk4
    rw [← hfin, fe_of (fun j hj => (hf0_1 j hj).trans (wd_mod256 _ j hj).symm)]
    exact ⟨_, _, rfl, .cell (i := 2) rfl rfl (Uu 123) rfl (Uz 123) (arr_size _ _ _), .tmp rfl⟩
set_option maxHeartbeats 400000 in
theorem minus_fn (a b : Nat) (ha : a < 2 ^ 256) (hb : b < 2 ^ 256) : Fn Tryz.prog G 181 #[fe a, fe b] (.tuple #[fe ((a + 2 ^ 256 - b) % 2 ^ 256), u (if a < b then 1 else 0)]) := by
  have hfin : bor a b 4 = if a < b then 1 else 0 := by
    unfold bor
    rw [Nat.mod_eq_of_lt (show a < 2 ^ (64 * 4) from ha), Nat.mod_eq_of_lt (show b < 2 ^ (64 * 4) from hb)]
  refine Qf2 Tryz.func181 ?_
  refine Qs<|Qp<|(Qh 0) fun r1=>(Qh 1) fun r2=>(QH 2) fun r3=>(Qa)<|Qn<|Qs<|Qp<|(QH 3) fun r4=>Qn<|Qs<|Qp<|(Qa)<|Qn<|Qs<|Qs<|Qp<|(Qm)<|Qn<|Qb ?_
  refine Qz (fun kk E m => ∃ (k : Nat) (s : Nat → Nat), kk = 4 - k ∧ E = [(2, ptr r1), (3, ptr r2), (4, ptr r3), (6, ptr r4), (7, u (bor a b k)), (9, ii k)] ∧ m = [(0, some ⟨r1, arr .u64 4 (wd a), 123⟩), (1, some ⟨r2, arr .u64 4 (wd b), 123⟩), (2, some ⟨r3, arr .u64 4 (fun _ => 0), 123⟩), (3, some ⟨r4, arr .u64 4 s, 123⟩)] ∧ (k ≤ 4) ∧ (∀ j, j < k → s j = wd (a + 2 ^ 256 - b) j)) ⟨0, fun _ => 0, rfl, rfl, rfl, by omega, fun j hj => absurd hj (Nat.not_lt_zero j)⟩ ⟨rfl, rfl, rfl, rfl, by rw [bor_zero]; rfl, rfl, trivial⟩ ⟨rfl, rfl, rfl, rfl, trivial⟩ ?_
  rintro kk E m ⟨k, s, rfl, rfl, rfl, hf0_0, hf0_1⟩
  have hcl := bor_le a b k
  have hwl := wd_lt b k
  refine Qs<|Qp<|(Ql)<|Qn<|Qs ?_
  refine e_cond rfl ?_ ?_
  · intro hc0
    have hc0 := of_decide_eq_true hc0
    refine Qk<|Qs<|Qb<|Qs<|Qp<|(Qm)<|(Qa)<|Qn<|(Qq ⟨[r4], 1, [], none⟩)<|(Qm)<|(Qm)<|(Qi) ?_
    refine e_load1 (i := 0) (Uu 31) rfl rfl rfl (arr_get (by omega)) rfl ⟨[3], rfl, rfl, trivial⟩ ?_
    refine (Qm)<|(Qi) ?_
    refine e_load1 (i := 1) (Uu 31) rfl rfl rfl (arr_get (by omega)) rfl ⟨[3], rfl, rfl, trivial⟩ ?_
    refine (Qm) ?_
    refine e_callE rfl (fun w => sub64 _ _ _ (by omega) (by omega) w) rfl rfl ?_
    refine (Qm)<|(Qx)<|(Qx)<|(Qi) ?_
    refine e_storeN (i := 3) (Uz 31) rfl rfl rfl (by omega) (.inr (by simp)) ?_
    refine (Qa)<|Qn<|Qp<|(Q2 1)<|(Qm)<|Qn ?_
    refine Qzr ⟨k + 1, upd s k _, rfl, rfl, rfl, by omega, upd_lt hf0_1 (bor_word a b k (by omega) (by omega))⟩ ⟨rfl, rfl, rfl, rfl, by rw [← bor_next]; rfl, rfl, trivial⟩ ⟨rfl, rfl, rfl, rfl, trivial⟩ ?_
    omega
  · intro hc0
    have hc0 := of_decide_eq_false hc0
    refine Qe<|Qs<|Qp<|(Qd 3)<|(Qm)<|(Qt 2)<|(Qa)<|Qn<|Qr ?_
    have hk4 : k = 4 := by omega
    subst hk4
    rw [← hfin, fe_of (fun j hj => (hf0_1 j hj).trans (wd_mod256 _ j hj).symm)]
    exact ⟨_, _, rfl, .cell (i := 2) rfl rfl (Uu 123) rfl (Uz 123) (arr_size _ _ _), .tmp rfl⟩
set_option maxHeartbeats 400000 in
theorem prime_fn : Fn Tryz.prog G 182 #[] (fe PP) := by
  refine Qf1 Tryz.func182 ?_
  refine Qs<|Qp<|(QH 0) fun r1=>Qn<|Qs<|Qp ?_
  refine e_build (arr .u64 4 (wd PP)) (Ub 123 rfl) (Uu 123 rfl) (Uz 31 rfl) rfl (by kernel_rfl) rfl ?_
  refine (Qt 0)<|Qn<|Qr ?_
  exact ⟨_, rfl, .cell (i := 0) rfl rfl (Uu 123) rfl (Uz 123) (arr_size _ _ _)⟩
set_option maxHeartbeats 400000 in
theorem times_fn (a n : Nat) (hn : n ≤ 1) : Fn Tryz.prog G 183 #[fe a, u n] (fe (a * n)) := by
  refine Qf1 Tryz.func183 ?_
  refine Qs<|Qp<|(Qh 0) fun r1=>(QH 1) fun r2=>Qn<|Qs<|Qs<|Qp<|(Qm)<|Qn<|Qb ?_
  refine Qz (fun kk E m => ∃ (k : Nat) (s : Nat → Nat), kk = 4 - k ∧ E = [(2, ptr r1), (1, u n), (4, ptr r2), (6, ii k)] ∧ m = [(0, some ⟨r1, arr .u64 4 s, 123⟩), (1, some ⟨r2, arr .u64 4 (fun _ => 0), 123⟩)] ∧ (k ≤ 4) ∧ (∀ j, j < k → s j = wd (a * n) j) ∧ (∀ j, k ≤ j → s j = wd a j)) ⟨0, wd a, rfl, rfl, rfl, by omega, fun j hj => absurd hj (Nat.not_lt_zero j), fun j _ => rfl⟩ ⟨rfl, rfl, rfl, rfl, trivial⟩ ⟨rfl, rfl, trivial⟩ ?_
  rintro kk E m ⟨k, s, rfl, rfl, rfl, hf0_0, hf0_1, hf0_2⟩
  refine Qs<|Qp<|(Ql)<|Qn<|Qs ?_
  refine e_cond rfl ?_ ?_
  · intro hc0
    have hc0 := of_decide_eq_true hc0
    refine Qk<|Qs<|Qb<|Qs<|Qp<|(Qm)<|(Qa)<|Qn<|Qp<|(Qm)<|(Qi)<|(Q1 0)<|(Qm) ?_
    refine e_neg_u rfl rfl (by omega) ?_
    refine e_and_u rfl rfl rfl  ?_
    refine (Qi)<|(Qu 0)<|Qn<|Qp<|(Q2 1)<|(Qm)<|Qn ?_
    refine Qzr ⟨k + 1, upd s k _, rfl, rfl, rfl, by omega, upd_lt hf0_1 (by rw [hf0_2 k (Nat.le_refl k)]; exact wd_mul01 a n k hn), upd_ge hf0_2⟩ ⟨rfl, rfl, rfl, rfl, trivial⟩ ⟨rfl, rfl, trivial⟩ ?_
    omega
  · intro hc0
    have hc0 := of_decide_eq_false hc0
    refine Qe<|Qs<|Qp<|(Qd 0)<|(Qt 1)<|Qn<|Qr ?_
    have hk4 : k = 4 := by omega
    subst hk4
    rw [fe_of hf0_1]
    exact ⟨_, rfl, .cell (i := 1) rfl rfl (Uu 123) rfl (Uz 123) (arr_size _ _ _)⟩
set_option maxHeartbeats 400000 in
theorem below_fn (a : Nat) (ha : a < 2 ^ 256) : Fn Tryz.prog G 187 #[fe a] (.bool (decide (a < PP))) := by
  have hPP := PP_eq
  refine Qf1 Tryz.func187 ?_
  refine Qs<|Qp<|(Qh 0) fun r1=>(Qa)<|Qn<|Qs<|(Qg)<|(Qd 0) ?_
  refine e_call rfl (Un 182) prime_fn rfl rfl ?_
  refine e_call rfl (Un 181) (minus_fn _ _ (by omega) (by omega)) rfl rfl ?_
  refine (Qm)<|(Qx)<|(Qx)<|(QH 1) fun r2=>(Qt 1)<|(Qa)<|Qn<|Qs<|Qp<|(Qm)<|(Qc) ?_
  refine e_as (lt_bool _ _) ?_
  refine (Qa)<|Qn<|Qr ?_
  exact ⟨_, rfl, .tmp rfl⟩
set_option maxHeartbeats 400000 in
theorem fold_fn (a ov : Nat) (ha : a < 2 ^ 256) (ho : ov < 2 ^ 50) : Fn Tryz.prog G 130 #[fe a, u ov] (fe ((a + ov * 2 ^ 256) % PP)) := by
  have hPP := PP_eq
  have h255 : a / 2 ^ 255 ≤ 1 := by omega
  have h256 := Nat.mod_lt a (show 0 < 2 ^ 255 from Nat.pow_pos (by decide))
  obtain ⟨Y, hY⟩ : ∃ Y, Y = a % 2 ^ 255 + (2 * ov + a / 2 ^ 255) * 19 := ⟨_, rfl⟩
  have hY2 : Y < 2 ^ 256 := by omega
  obtain ⟨t, ht⟩ : ∃ t, t = (if Y < PP then 1 else 0) := ⟨_, rfl⟩
  have hb1 : t ≤ 1 := by rw [ht]; split <;> omega
  have hb2 : PP * t < 2 ^ 256 := by rw [hPP]; omega
  have hY3 : (a % 2 ^ 255 + (2 * ov + a / 2 ^ 255) * 19) % 2 ^ 256 = Y := by rw [← hY]; exact Nat.mod_eq_of_lt hY2
  have hm1 := Nat.mod_lt (Y + 2 ^ 256 - PP) (show 0 < 2 ^ 256 from Nat.pow_pos (by decide))
  refine Qf1 Tryz.func130 ?_
  refine Qs<|Qp<|(Qh 0) fun r1=>(QH 1) fun r2=>Qn<|Qs<|Qp<|(Qm) ?_
  refine e_shl_u (s := 1) rfl rfl rfl (by omega) ?_
  refine (Qj 3)<|(Q1 0)<|(Q8 63) ?_
  refine e_or_u rfl rfl rfl  ?_
  refine e_as (congrArg u (fold_or a ov ha ho)) ?_
  refine (Qa)<|Qn<|Qs<|Qp<|(Qj 3)<|(Q1 0)<|(Q9 9223372036854775807)<|(Qj 3)<|(Qu 0)<|Qn<|Qs<|Qp<|(Qd 0) ?_
  refine e_as (fe_of (wd_low63 a ha)).symm ?_
  refine (Qm) ?_
  refine e_mul_u (q := 19) rfl rfl rfl  ?_
  refine e_as (congrArg u (Nat.mod_eq_of_lt (show (2 * ov + a / 2 ^ 255) * 19 < 18446744073709551616 by omega))) ?_
  refine e_build (arr .u64 4 (upd (fun _ => 0) 0 ((2 * ov + a / 2 ^ 255) * 19))) (Ub 123 rfl) (Uu 123 rfl) (Uz 31 rfl) rfl rfl rfl ?_
  refine e_as (fe_one ((2 * ov + a / 2 ^ 255) * 19) (by omega)) ?_
  refine e_call rfl (Un 180) (plus_fn _ _ (by omega) (by omega)) rfl rfl ?_
  refine (Qm)<|(Qx) ?_
  refine e_as (congrArg fe hY3) ?_
  refine (Qx)<|(Qt 0)<|Qn<|Qs<|(Qg)<|(Qd 0) ?_
  refine e_call rfl (Un 182) prime_fn rfl rfl ?_
  refine e_call rfl (Un 181) (minus_fn _ _ (by omega) (by omega)) rfl rfl ?_
  refine (Qm)<|(Qx)<|(Qx) ?_
  refine e_as (congrArg u ht.symm) ?_
  refine (QH 2) fun r3=>(Qt 2)<|(Qa)<|Qn<|Qs<|(Qg)<|(Qd 2) ?_
  refine e_call rfl (Un 182) prime_fn rfl rfl ?_
  refine (Qm) ?_
  refine e_call rfl (Un 183) (times_fn _ _ (by omega)) rfl rfl ?_
  refine e_call rfl (Un 180) (plus_fn _ _ (by omega) (by omega)) rfl rfl ?_
  refine (Qm)<|(Qx)<|(Qx)<|(Qt 2)<|Qn<|Qs<|Qp<|(Qd 2)<|(Qt 1)<|Qn<|Qr ?_
  rw [← fold_fin a ov Y ha ho hY, ← ht]
  exact ⟨_, rfl, .cell (i := 1) rfl rfl (Uu 123) rfl (Uz 123) (arr_size _ _ _)⟩
set_option maxHeartbeats 400000 in
theorem from_fn (f : Nat → Nat) (hf : L8 32 f) : Fn Tryz.prog G 83 #[.agg (arr .u8 32 f)] (fe (vb f 32 % 2 ^ 255 % PP)) := by
  have hPP := PP_eq
  refine Qf1 Tryz.func83 ?_
  refine Qs<|Qp<|(Qh 0) fun r1=>(QH 1) fun r2=>Qn<|Qs<|Qp<|(QH 2) fun r3=>Qn<|Qs<|Qs<|Qp<|(Qm)<|Qn<|Qb ?_
  refine Qz (fun kk E m => ∃ (k : Nat) (s : Nat → Nat), kk = 32 - k ∧ E = [(1, ptr r1), (2, ptr r2), (3, ptr r3), (5, ii k)] ∧ m = [(0, some ⟨r1, arr .u8 32 f, 23⟩), (1, some ⟨r2, arr .u64 4 (fun _ => 0), 123⟩), (2, some ⟨r3, arr .u64 4 s, 123⟩)] ∧ (k ≤ 32) ∧ (∀ j, j < 4 → s j = wd (vb f k) j)) ⟨0, fun _ => 0, rfl, rfl, rfl, by omega, fun j _ => by simp [vb, wd]⟩ ⟨rfl, rfl, rfl, rfl, trivial⟩ ⟨rfl, rfl, rfl, trivial⟩ ?_
  rintro kk E m ⟨k, s, rfl, rfl, rfl, hf0_0, hf0_1⟩
  refine Qs<|Qp<|(Ql)<|Qn<|Qs ?_
  refine e_cond rfl ?_ ?_
  · intro hc0
    have hc0 := of_decide_eq_true hc0
    refine Qk<|Qs<|Qb<|Qs<|Qp<|(Qm)<|(Qa)<|Qn<|(Qg)<|(Qm)<|(Q5 8)<|(Qi)<|(Q1 2)<|(Qm)<|(Qi)<|(Q1 0) ?_
    refine e_conv_u (Uu 5) (Uu 31) rfl rfl rfl ?_
    refine (Qm)<|(Q4 8)<|(Q6 8) ?_
    refine e_shl_u rfl rfl rfl (by omega) ?_
    refine e_or_u rfl rfl rfl  ?_
    refine (Qi)<|(Qu 2)<|Qn<|Qp<|(Q2 1)<|(Qm)<|Qn ?_
    refine Qzr ⟨k + 1, upd s (k / 8) _, rfl, rfl, rfl, by omega, from_step f k s (by omega) hf hf0_1⟩ ⟨rfl, rfl, rfl, rfl, trivial⟩ ⟨rfl, rfl, rfl, trivial⟩ ?_
    omega
  · intro hc0
    have hc0 := of_decide_eq_false hc0
    have hk32 : k = 32 := by omega
    subst hk32
    have hA := from_top f s hf hf0_1
    refine Qe<|Qs<|Qp<|(Qj 3)<|(Q1 2)<|(Q9 9223372036854775807)<|(Qj 3)<|(Qu 2)<|Qn<|Qs<|Qp<|(Qd 2) ?_
    refine e_as hA ?_
    refine e_call rfl (Un 130) (fold_fn (vb f 32 % 2 ^ 255) 0 (by omega) (by omega)) rfl rfl ?_
    refine (Qt 1)<|Qn<|Qr ?_
    rw [show vb f 32 % 2 ^ 255 % PP = (vb f 32 % 2 ^ 255 + 0 * 2 ^ 256) % PP by rw [Nat.zero_mul, Nat.add_zero]]
    exact ⟨_, rfl, .cell (i := 1) rfl rfl (Uu 123) rfl (Uz 123) (arr_size _ _ _)⟩
set_option maxHeartbeats 400000 in
theorem bytes_ok (a : Nat) (ha : a < PP) : Fn Tryz.prog G 135 #[fe a] (.tuple #[by32 a, ii 0]) := by
  have hPP := PP_eq
  refine Qf2 Tryz.func135 ?_
  refine Qs<|Qp<|(Qh 0) fun r1=>(QH 1) fun r2=>(Qa)<|Qn<|Qs<|Qs<|Qp<|(Qd 0) ?_
  refine e_call rfl (Un 187) (below_fn _ (by omega)) rfl rfl ?_
  refine (Q0)<|Qn ?_
  refine e_cond rfl ?_ ?_
  · intro hc0
    simp [ha] at hc0
  · intro hc0
    refine Qk<|Qs<|Qp<|(QH 2) fun r3=>Qn<|Qs<|Qs<|Qp<|(Qm)<|Qn<|Qb ?_
    refine Qz (fun kk E m => ∃ (k : Nat) (s : Nat → Nat), kk = 32 - k ∧ E = [(1, ptr r1), (2, ptr r2), (4, ptr r3), (10, ii k)] ∧ m = [(0, some ⟨r1, arr .u64 4 (wd a), 123⟩), (1, some ⟨r2, arr .u8 32 (fun _ => 0), 23⟩), (2, some ⟨r3, arr .u8 32 s, 23⟩)] ∧ (k ≤ 32) ∧ (∀ j, j < k → s j = bt a j)) ⟨0, fun _ => 0, rfl, rfl, rfl, by omega, fun j hj => absurd hj (Nat.not_lt_zero j)⟩ ⟨rfl, rfl, rfl, rfl, trivial⟩ ⟨rfl, rfl, rfl, trivial⟩ ?_
    rintro kk E m ⟨k, s, rfl, rfl, rfl, hf0_0, hf0_1⟩
    refine Qs<|Qp<|(Ql)<|Qn<|Qs ?_
    refine e_cond rfl ?_ ?_
    · intro hc1
      have hc1 := of_decide_eq_true hc1
      refine Qk<|Qs<|Qb<|Qs<|Qp<|(Qm)<|(Qa)<|Qn<|Qp<|(Qm)<|(Qm)<|(Q5 8)<|(Qi)<|(Q1 0)<|(Qm)<|(Q4 8)<|(Q6 8) ?_
      refine e_shr_u rfl rfl rfl (by omega) ?_
      refine e_conv_u8 (Uu 31) (Uu 5) rfl rfl rfl ?_
      refine (Qi)<|(Qu 2)<|Qn<|Qp<|(Q2 1)<|(Qm)<|Qn ?_
      refine Qzr ⟨k + 1, upd s k _, rfl, rfl, rfl, by omega, upd_lt hf0_1 (bt_word a k)⟩ ⟨rfl, rfl, rfl, rfl, trivial⟩ ⟨rfl, rfl, rfl, trivial⟩ ?_
      omega
    · intro hc1
      have hc1 := of_decide_eq_false hc1
      refine Qe<|Qs<|Qp<|(Qd 2)<|(Qt 1)<|(Qa)<|Qn<|Qr ?_
      have hk32 : k = 32 := by omega
      subst hk32
      rw [← by_congr hf0_1]
      exact ⟨_, _, rfl, .cell (i := 1) rfl rfl (Uu 23) rfl (Uz 23) (arr_size _ _ _), .tmp rfl⟩
end Go.Proofs.YthljakcegoohlaaGreatDoor
namespace Go.Proofs.YthljakcegoohlaaGreatDoor
open Go Go.RowKit
variable {G : Mem}
set_option maxHeartbeats 400000 in
theorem step_fn (a b c d : Nat) (ha : a < 18446744073709551616) (hb : b < 18446744073709551616) (hc : c < 18446744073709551616) (hd : d < 18446744073709551616) : Fn Tryz.prog G 259 #[u a, u b, u c, u d] (.tuple #[u ((a * b + c + d) % 18446744073709551616), u ((a * b + c + d) / 18446744073709551616)]) := by
  have hp := prod_lt ha hb
  refine Qf2 Tryz.func259 ?_
  refine Qs<|Qp<|(Qa)<|(Qa)<|Qn<|Qs<|Qp<|(Qm)<|(Qm) ?_
  refine e_call rfl (Un 277) (mul64_fn _ _ (by omega) (by omega)) rfl rfl ?_
  refine (Qm)<|(Qx)<|(Qx)<|(Qa)<|(Qa)<|Qn<|Qs<|Qp<|(Qm)<|(Qm) ?_
  refine e_callE rfl (fun w => add64 _ _ 0 (by omega) w) rfl rfl ?_
  refine (Qm)<|(Qx)<|(Qx)<|(Qa)<|(Qa)<|Qn<|Qs<|Qp<|(Qm)<|(Qm) ?_
  refine e_add_u rfl rfl rfl  ?_
  refine (Qa)<|Qn<|Qs<|Qp<|(Qm)<|(Qm) ?_
  refine e_callE rfl (fun w => add64 _ _ 0 (by omega) w) rfl rfl ?_
  refine (Qm)<|(Qx)<|(Qx)<|(Qa)<|(Qa)<|Qn<|Qs<|Qp<|(Qm)<|(Qm)<|(Qm) ?_
  refine e_add_u rfl rfl rfl  ?_
  refine (Qa)<|(Qa)<|Qn<|Qr ?_
  rw [← step_lo, ← step_hi _ _ _ hp hc hd]
  exact ⟨_, _, rfl, .tmp rfl, .tmp rfl⟩
set_option maxHeartbeats 400000 in
theorem wide_fn (a b : Nat) (ha : a < 2 ^ 256) (hb : b < 2 ^ 256) : Fn Tryz.prog G 258 #[fe a, fe b] (.agg (arr .u64 8 (wd (a * b)))) := by
  refine Qf1 Tryz.func258 ?_
  refine Qs<|Qp<|(Qh 0) fun r1=>(Qh 1) fun r2=>(QH 2) fun r3=>Qn<|Qs<|Qp<|(QH 3) fun r4=>Qn<|Qs<|Qs<|Qp<|(Qm)<|Qn<|Qb ?_
  refine Qz (fun kk E m => ∃ (k : Nat) (s : Nat → Nat), kk = 4 - k ∧ E = [(2, ptr r1), (3, ptr r2), (4, ptr r3), (5, ptr r4), (9, ii k)] ∧ m = [(0, some ⟨r1, arr .u64 4 (wd a), 123⟩), (1, some ⟨r2, arr .u64 4 (wd b), 123⟩), (2, some ⟨r3, arr .u64 8 (fun _ => 0), 308⟩), (3, some ⟨r4, arr .u64 8 s, 308⟩)] ∧ (k ≤ 4) ∧ (∀ t, t < 8 → s t = wd (a % 2 ^ (64 * k) * b) t)) ⟨0, fun _ => 0, rfl, rfl, rfl, by omega, fun t _ => by simp [Nat.mod_one, wd]⟩ ⟨rfl, rfl, rfl, rfl, rfl, trivial⟩ ⟨rfl, rfl, rfl, rfl, trivial⟩ ?_
  rintro kk E m ⟨k, s, rfl, rfl, rfl, hf0_0, hf0_1⟩
  refine Qs<|Qp<|(Ql)<|Qn<|Qs ?_
  refine e_cond rfl ?_ ?_
  · intro hc0
    have hc0 := of_decide_eq_true hc0
    refine Qk<|Qs<|Qb<|Qs<|Qp<|(Qm)<|(Qa)<|Qn<|Qs<|Qp<|(Qa)<|Qn<|Qs<|Qs<|Qp<|(Qm)<|Qn<|Qb ?_
    refine Qz (fun kk E m => ∃ (j : Nat) (s2 : Nat → Nat), kk = 4 - j ∧ E = [(2, ptr r1), (3, ptr r2), (4, ptr r3), (5, ptr r4), (9, ii k), (6, ii k), (7, u (wO a b k j)), (12, ii j)] ∧ m = [(0, some ⟨r1, arr .u64 4 (wd a), 123⟩), (1, some ⟨r2, arr .u64 4 (wd b), 123⟩), (2, some ⟨r3, arr .u64 8 (fun _ => 0), 308⟩), (3, some ⟨r4, arr .u64 8 s2, 308⟩)] ∧ (j ≤ 4) ∧ (∀ t, t < k + j → s2 t = wd (wS a b k j) t) ∧ (∀ t, k + j ≤ t → t < 8 → s2 t = wd (a % 2 ^ (64 * k) * b) t)) ⟨0, s, rfl, rfl, rfl, by omega, fun t ht => (hf0_1 t (by omega)).trans (wS_zero a b k t (by omega)).symm, fun t _ ht => hf0_1 t ht⟩ ⟨rfl, rfl, rfl, rfl, rfl, rfl, by rw [wO_zero]; rfl, rfl, trivial⟩ ⟨rfl, rfl, rfl, rfl, trivial⟩ ?_
    rintro kk E m ⟨j, s2, rfl, rfl, rfl, hf1_0, hf1_1, hf1_2⟩
    have ha1 := wd_lt a k
    have hb1 := wd_lt b j
    have ho1 := wO_lt a b k j (by omega)
    have hs2 : (j : Int) < 4 → s2 (k + j) = wd (a % 2 ^ (64 * k) * b) (k + j) := fun h => hf1_2 (k + j) (by omega) (by omega)
    refine Qs<|Qp<|(Ql)<|Qn<|Qs ?_
    refine e_cond rfl ?_ ?_
    · intro hc1
      have hc1 := of_decide_eq_true hc1
      refine Qk<|Qs<|Qb<|Qs<|Qp<|(Qm)<|(Qa)<|Qn<|(Qg)<|(Qm)<|(Qm)<|(Q3)<|(Qm)<|(Qi)<|(Q1 0)<|(Qm)<|(Qi)<|(Q1 1)<|(Qm)<|(Qm)<|(Q3)<|(Qi)<|(Q1 3)<|(Qm) ?_
      have hs3 := wd_lt (a % 2 ^ (64 * k) * b) (k + j); have hs4 := hs2 hc1
      refine e_call rfl (Un 259) (step_fn _ _ _ _ (by omega) (by omega) (by omega) (by omega)) rfl rfl ?_
      refine (Qm)<|(Qx)<|(Qx)<|(Qi)<|(Qu 3)<|(Qa)<|Qn<|Qp<|(Q2 1)<|(Qm)<|Qn ?_
      refine Qzr ⟨j + 1, upd s2 (k + j) _, rfl, rfl, rfl, by omega, by rw [hs2 hc1]; exact inner_low hf1_1, fun t h1 h2 => by rw [← hf1_2 t (by omega) h2]; unfold upd; rw [if_neg (by omega)]⟩ ⟨rfl, rfl, rfl, rfl, rfl, rfl, by rw [← wide_hi, ← hs2 hc1]; rfl, rfl, trivial⟩ ⟨rfl, rfl, rfl, rfl, trivial⟩ ?_
      omega
    · intro hc1
      have hc1 := of_decide_eq_false hc1
      have hj4 : j = 4 := by omega
      subst hj4
      refine Qe<|Qp<|(Qm)<|(Q2 4)<|(Qm)<|(Qi)<|(Qu 3)<|Qn<|Qp<|(Q2 1)<|(Qm)<|Qn ?_
      refine Qzr ⟨k + 1, upd s2 (k + 4) _, rfl, rfl, rfl, by omega, outer_row hb hf1_1 hf1_2⟩ ⟨rfl, rfl, rfl, rfl, rfl, trivial⟩ ⟨rfl, rfl, rfl, rfl, trivial⟩ ?_
      omega
  · intro hc0
    have hc0 := of_decide_eq_false hc0
    refine Qe<|Qs<|Qp<|(Qd 3)<|(Qt 2)<|Qn<|Qr ?_
    have hk4 : k = 4 := by omega
    subst hk4
    rw [Nat.mod_eq_of_lt (show a < 2 ^ (64 * 4) from ha)] at hf0_1
    rw [← arr_congr hf0_1]
    exact ⟨_, rfl, .cell (i := 2) rfl rfl (Uu 308) rfl (Uz 308) (arr_size _ _ _)⟩
set_option maxHeartbeats 400000 in
theorem product_fn (a b : Nat) (ha : a < 2 ^ 256) (hb : b < 2 ^ 256) : Fn Tryz.prog G 233 #[fe a, fe b] (fe (a * b % PP)) := by
  refine Qf1 Tryz.func233 ?_
  refine Qs<|Qp<|(Qh 0) fun r1=>(Qh 1) fun r2=>(QH 2) fun r3=>Qn<|Qs<|Qp<|(Qd 0)<|(Qd 1) ?_
  refine e_call rfl (Un 258) (wide_fn _ _ (by omega) (by omega)) rfl rfl ?_
  refine (QH 3) fun r4=>(Qt 3)<|Qn<|Qs<|Qp<|(QH 4) fun r5=>Qn<|Qs<|Qp<|(Qa)<|Qn<|Qs<|Qs<|Qp<|(Qm)<|Qn<|Qb ?_
  refine Qz (fun kk E m => ∃ (k : Nat) (s : Nat → Nat), kk = 4 - k ∧ E = [(4, ptr r3), (5, ptr r4), (6, ptr r5), (7, u (pS (a * b) k / 2 ^ (64 * k))), (12, ii k)] ∧ m = [(0, some ⟨r1, arr .u64 4 (wd a), 123⟩), (1, some ⟨r2, arr .u64 4 (wd b), 123⟩), (2, some ⟨r3, arr .u64 4 (fun _ => 0), 123⟩), (3, some ⟨r4, arr .u64 8 (wd (a * b)), 308⟩), (4, some ⟨r5, arr .u64 4 s, 123⟩)] ∧ (k ≤ 4) ∧ (∀ t, t < k → s t = wd (pS (a * b) k) t)) ⟨0, fun _ => 0, rfl, rfl, rfl, by omega, fun t ht => absurd ht (Nat.not_lt_zero t)⟩ ⟨rfl, rfl, rfl, by rw [pS_zero]; rfl, rfl, trivial⟩ ⟨rfl, rfl, rfl, rfl, rfl, trivial⟩ ?_
  rintro kk E m ⟨k, s, rfl, rfl, rfl, hf0_0, hf0_1⟩
  have hw1 := wd_lt (a * b) k
  have hw2 := wd_lt (a * b) (k + 4)
  have hov := pS_lt (a * b) k
  refine Qs<|Qp<|(Ql)<|Qn<|Qs ?_
  refine e_cond rfl ?_ ?_
  · intro hc0
    have hc0 := of_decide_eq_true hc0
    refine Qk<|Qs<|Qb<|Qs<|Qp<|(Qm)<|(Qa)<|Qn<|(Qq ⟨[r5], 1, [], none⟩)<|(Qm)<|(Qm)<|(Q2 4)<|(Qi) ?_
    refine e_load1 (i := 3) (Uu 31) rfl rfl rfl (arr_get (by omega)) rfl ⟨[4], rfl, rfl, trivial⟩ ?_
    refine (Qm)<|(Qi) ?_
    refine e_load1 (i := 3) (Uu 31) rfl rfl rfl (arr_get (by omega)) rfl ⟨[4], rfl, rfl, trivial⟩ ?_
    refine (Qm) ?_
    refine e_call rfl (Un 259) (step_fn _ 38 _ _ (by omega) (by omega) (by omega) (by omega)) rfl rfl ?_
    refine (Qm)<|(Qx)<|(Qx)<|(Qi) ?_
    refine e_storeN (i := 4) (Uz 31) rfl rfl rfl (by omega) (.inr (by simp)) ?_
    refine (Qa)<|Qn<|Qp<|(Q2 1)<|(Qm)<|Qn ?_
    refine Qzr ⟨k + 1, upd s k _, rfl, rfl, rfl, by omega, pS_low hf0_1⟩ ⟨rfl, rfl, rfl, by rw [← pS_hi]; rfl, rfl, trivial⟩ ⟨rfl, rfl, rfl, rfl, rfl, trivial⟩ ?_
    omega
  · intro hc0
    have hc0 := of_decide_eq_false hc0
    have hk4 : k = 4 := by omega
    subst hk4
    refine Qe<|Qs<|Qp<|(Qd 4) ?_
    refine e_as (fe_of (fun j hj => (hf0_1 j hj).trans (wd_mod256 _ j hj).symm)).symm ?_
    refine (Qm) ?_
    refine e_call rfl (Un 130) (fold_fn _ _ (Nat.mod_lt _ (Nat.pow_pos (by decide))) (by omega)) rfl rfl ?_
    refine (Qt 2)<|Qn<|Qr ?_
    rw [← pS_fin (a * b) (mul_lt512 ha hb)]
    exact ⟨_, rfl, .cell (i := 2) rfl rfl (Uu 123) rfl (Uz 123) (arr_size _ _ _)⟩
set_option maxHeartbeats 400000 in
theorem inverse_fn (a : Nat) (ha : a < 2 ^ 256) : Fn Tryz.prog G 188 #[fe a] (fe (a ^ EE % PP)) := by
  have hPP := PP_eq
  refine Qf1 Tryz.func188 ?_
  refine Qs<|Qp<|(Qh 0) fun r1=>(QH 1) fun r2=>Qn<|Qs<|Qp ?_
  refine e_build (arr .u64 4 (upd (fun _ => 0) 0 1)) (Ub 123 rfl) (Uu 123 rfl) (Uz 31 rfl) rfl rfl rfl ?_
  refine e_as (fe_one 1 (by decide)) ?_
  refine (QH 2) fun r3=>(Qt 2)<|Qn<|Qs<|Qs<|Qp<|(Qa)<|Qn<|Qb ?_
  refine Qz (fun kk E m => ∃ (k : Nat) (pw : Nat), kk = 255 - k ∧ E = [(1, ptr r1), (2, ptr r2), (3, ptr r3), (4, .int .i64 (254 - (k : Nat)))] ∧ m = [(0, some ⟨r1, arr .u64 4 (wd a), 123⟩), (1, some ⟨r2, arr .u64 4 (fun _ => 0), 123⟩), (2, some ⟨r3, arr .u64 4 (wd pw), 123⟩)] ∧ (k ≤ 255) ∧ (pw = a ^ (EE / 2 ^ (255 - k)) % PP)) ⟨0, 1, rfl, rfl, rfl, by omega, inv_first a⟩ ⟨rfl, rfl, rfl, rfl, trivial⟩ ⟨rfl, rfl, rfl, trivial⟩ ?_
  rintro kk E m ⟨k, pw, rfl, rfl, rfl, hf0_0, hf0_1⟩
  have hpw : pw < 2 ^ 256 := by have := Nat.mod_lt (a ^ (EE / 2 ^ (255 - k))) (show 0 < PP by decide); omega
  have hq := Nat.mod_lt (pw * pw) (show 0 < PP by decide)
  refine Qs<|Qs<|Qp<|(Qm)<|(QE)<|Qn ?_
  refine e_cond rfl ?_ ?_
  · intro hc0
    have hc0 := of_decide_eq_true hc0
    refine Qk<|Qs<|Qb<|Qs<|Qp<|(Qd 2)<|(Qd 2) ?_
    refine e_call rfl (Un 233) (product_fn _ _ (by omega) (by omega)) rfl rfl ?_
    refine (Qt 2)<|Qn ?_
    rcases (show (k = 252 ∨ k = 250) ∨ ¬ (k = 252 ∨ k = 250) by omega) with (h252 | h250) | hno
    · skip
      refine Qs<|Qp<|(Qm)<|(QN)<|(Qaf)<|(Qm)<|(Qo)<|(Qo)<|(QF)<|Qn<|(Qcf)<|Qk<|Qp<|(Qm) ?_
      refine e_sub_z (q := 1) rfl rfl rfl (by omega) (by omega) ?_
      refine (Qa)<|Qn ?_
      refine Qzr ⟨k + 1, _, rfl, rfl, rfl, by omega, inv_skip a k pw (by omega) (.inl h252) hf0_1⟩ ⟨rfl, rfl, rfl, congrArg (fun z => some (Value.int .i64 z)) (show (254 - (k : Int) - 1) = 254 - ((k + 1 : Nat) : Int) by omega), trivial⟩ ⟨rfl, rfl, rfl, trivial⟩ ?_
      omega
    · skip
      refine Qs<|Qp<|(Qm)<|(QN)<|(Qat)<|(Qm)<|(Qy)<|(Qm)<|(Qy)<|(QN)<|(Qaf)<|(QT)<|Qn<|(Qcf)<|Qk<|Qp<|(Qm) ?_
      refine e_sub_z (q := 1) rfl rfl rfl (by omega) (by omega) ?_
      refine (Qa)<|Qn ?_
      refine Qzr ⟨k + 1, _, rfl, rfl, rfl, by omega, inv_skip a k pw (by omega) (.inr h250) hf0_1⟩ ⟨rfl, rfl, rfl, congrArg (fun z => some (Value.int .i64 z)) (show (254 - (k : Int) - 1) = 254 - ((k + 1 : Nat) : Int) by omega), trivial⟩ ⟨rfl, rfl, rfl, trivial⟩ ?_
      omega
    · skip
      refine Qs<|Qp<|(Qm)<|(QN)<|(Qat)<|(Qm)<|(Qy)<|(Qm)<|(Qy)<|(QN)<|(Qat)<|(QT)<|Qn<|(Qct)<|Qp<|(Qd 2)<|(Qd 0) ?_
      refine e_call rfl (Un 233) (product_fn _ _ (by omega) (by omega)) rfl rfl ?_
      refine (Qt 2)<|Qn<|Qp<|(Qm) ?_
      refine e_sub_z (q := 1) rfl rfl rfl (by omega) (by omega) ?_
      refine (Qa)<|Qn ?_
      refine Qzr ⟨k + 1, _, rfl, rfl, rfl, by omega, inv_take a k pw (by omega) hno hf0_1⟩ ⟨rfl, rfl, rfl, congrArg (fun z => some (Value.int .i64 z)) (show (254 - (k : Int) - 1) = 254 - ((k + 1 : Nat) : Int) by omega), trivial⟩ ⟨rfl, rfl, rfl, trivial⟩ ?_
      omega
  · intro hc0
    have hc0 := of_decide_eq_false hc0
    have hk : k = 255 := by omega
    subst hk
    refine Qe<|Qs<|Qp<|(Qd 2)<|(Qt 1)<|Qn<|Qr ?_
    rw [inv_last] at hf0_1
    rw [← hf0_1]
    exact ⟨_, rfl, .cell (i := 1) rfl rfl (Uu 123) rfl (Uz 123) (arr_size _ _ _)⟩
end Go.Proofs.YthljakcegoohlaaGreatDoor
namespace Go.Proofs.YthljakcegoohlaaGreatDoor
open Go Go.RowKit
variable {G : Mem}
set_option maxHeartbeats 400000 in
theorem add_ok (a b : Nat) (ha : a < PP) (hb : b < PP) : Fn Tryz.prog G 231 #[fe a, fe b] (.tuple #[fe ((a + b) % PP), ii 0]) := by
  have hPP := PP_eq
  refine Qf2 Tryz.func231 ?_
  refine Qs<|Qp<|(Qh 0) fun r1=>(Qh 1) fun r2=>(QH 2) fun r3=>(Qa)<|Qn<|Qs<|Qs<|Qp<|(Qd 0) ?_
  refine e_call rfl (Un 187) (below_fn _ (by omega)) rfl rfl ?_
  refine (Q0) ?_
  refine e_as (congrArg Value.bool (show (!decide (a < PP)) = false by simp [ha])) ?_
  refine (Qm)<|(Qy)<|(Qd 1)<|(Qy) ?_
  refine e_call rfl (Un 187) (below_fn _ (by omega)) rfl rfl ?_
  refine (Qy)<|(Q0) ?_
  refine e_as (congrArg Value.bool (show (!decide (b < PP)) = false by simp [hb])) ?_
  refine (QF)<|Qn<|(Qcf)<|Qk<|Qs<|Qp<|(Qd 0)<|(Qd 1) ?_
  refine e_call rfl (Un 180) (plus_fn _ _ (by omega) (by omega)) rfl rfl ?_
  refine (Qm)<|(Qx) ?_
  refine e_as (congrArg fe (Nat.mod_eq_of_lt (show a + b < 2 ^ 256 by omega))) ?_
  refine (Qx)<|(QH 3) fun r4=>(Qt 3)<|(Qa)<|Qn<|Qs<|Qp<|(Qd 3) ?_
  refine e_call rfl (Un 130) (fold_fn _ 0 (by omega) (by omega)) rfl rfl ?_
  refine (Qt 2)<|(Qa)<|Qn<|Qr ?_
  rw [show (a + b) % PP = (a + b + 0 * 2 ^ 256) % PP by rw [Nat.zero_mul, Nat.add_zero]]
  exact ⟨_, _, rfl, .cell (i := 2) rfl rfl (Uu 123) rfl (Uz 123) (arr_size _ _ _), .tmp rfl⟩
set_option maxHeartbeats 400000 in
theorem sub_ok (a b : Nat) (ha : a < PP) (hb : b < PP) : Fn Tryz.prog G 232 #[fe a, fe b] (.tuple #[fe ((a + PP - b) % PP), ii 0]) := by
  have hPP := PP_eq
  obtain ⟨t, ht⟩ : ∃ t, t = (if a < b then 1 else 0) := ⟨_, rfl⟩
  have hb1 : t ≤ 1 := by rw [ht]; split <;> omega
  have hb2 : PP * t < 2 ^ 256 := by rw [hPP]; omega
  have hm1 := Nat.mod_lt (a + 2 ^ 256 - b) (show 0 < 2 ^ 256 from Nat.pow_pos (by decide))
  refine Qf2 Tryz.func232 ?_
  refine Qs<|Qp<|(Qh 0) fun r1=>(Qh 1) fun r2=>(QH 2) fun r3=>(Qa)<|Qn<|Qs<|Qs<|Qp<|(Qd 0) ?_
  refine e_call rfl (Un 187) (below_fn _ (by omega)) rfl rfl ?_
  refine (Q0) ?_
  refine e_as (congrArg Value.bool (show (!decide (a < PP)) = false by simp [ha])) ?_
  refine (Qm)<|(Qy)<|(Qd 1)<|(Qy) ?_
  refine e_call rfl (Un 187) (below_fn _ (by omega)) rfl rfl ?_
  refine (Qy)<|(Q0) ?_
  refine e_as (congrArg Value.bool (show (!decide (b < PP)) = false by simp [hb])) ?_
  refine (QF)<|Qn<|(Qcf)<|Qk<|Qs<|Qp<|(Qd 0)<|(Qd 1) ?_
  refine e_call rfl (Un 181) (minus_fn _ _ (by omega) (by omega)) rfl rfl ?_
  refine (Qm)<|(Qx)<|(Qx) ?_
  refine e_as (congrArg u ht.symm) ?_
  refine (QH 3) fun r4=>(Qt 3)<|(Qa)<|Qn<|Qs<|(Qg)<|(Qd 3) ?_
  refine e_call rfl (Un 182) prime_fn rfl rfl ?_
  refine (Qm) ?_
  refine e_call rfl (Un 183) (times_fn _ _ (by omega)) rfl rfl ?_
  refine e_call rfl (Un 180) (plus_fn _ _ (by omega) (by omega)) rfl rfl ?_
  refine (Qm)<|(Qx)<|(Qx)<|(Qt 3)<|Qn<|Qs<|Qp<|(Qd 3)<|(Qt 2)<|(Qa)<|Qn<|Qr ?_
  rw [← sub_fin a b ha hb, ← ht]
  exact ⟨_, _, rfl, .cell (i := 2) rfl rfl (Uu 123) rfl (Uz 123) (arr_size _ _ _), .tmp rfl⟩
set_option maxHeartbeats 400000 in
theorem mul_ok (a b : Nat) (ha : a < PP) (hb : b < PP) : Fn Tryz.prog G 189 #[fe a, fe b] (.tuple #[fe (a * b % PP), ii 0]) := by
  have hPP := PP_eq
  refine Qf2 Tryz.func189 ?_
  refine Qs<|Qp<|(Qh 0) fun r1=>(Qh 1) fun r2=>(QH 2) fun r3=>(Qa)<|Qn<|Qs<|Qs<|Qp<|(Qd 0) ?_
  refine e_call rfl (Un 187) (below_fn _ (by omega)) rfl rfl ?_
  refine (Q0) ?_
  refine e_as (congrArg Value.bool (show (!decide (a < PP)) = false by simp [ha])) ?_
  refine (Qm)<|(Qy)<|(Qd 1)<|(Qy) ?_
  refine e_call rfl (Un 187) (below_fn _ (by omega)) rfl rfl ?_
  refine (Qy)<|(Q0) ?_
  refine e_as (congrArg Value.bool (show (!decide (b < PP)) = false by simp [hb])) ?_
  refine (QF)<|Qn<|(Qcf)<|Qk<|Qs<|Qp<|(Qd 0)<|(Qd 1) ?_
  refine e_call rfl (Un 233) (product_fn _ _ (by omega) (by omega)) rfl rfl ?_
  refine (Qt 2)<|(Qa)<|Qn<|Qr ?_
  exact ⟨_, _, rfl, .cell (i := 2) rfl rfl (Uu 123) rfl (Uz 123) (arr_size _ _ _), .tmp rfl⟩
set_option maxHeartbeats 400000 in
theorem inv_ok (a : Nat) (ha : a < PP) : Fn Tryz.prog G 134 #[fe a] (.tuple #[fe (a ^ EE % PP), ii 0]) := by
  have hPP := PP_eq
  refine Qf2 Tryz.func134 ?_
  refine Qs<|Qp<|(Qh 0) fun r1=>(QH 1) fun r2=>(Qa)<|Qn<|Qs<|Qs<|Qp<|(Qd 0) ?_
  refine e_call rfl (Un 187) (below_fn _ (by omega)) rfl rfl ?_
  refine (Q0) ?_
  refine e_as (congrArg Value.bool (show (!decide (a < PP)) = false by simp [ha])) ?_
  refine Qn<|(Qcf)<|Qk<|Qs<|Qp<|(Qd 0) ?_
  refine e_call rfl (Un 188) (inverse_fn _ (by omega)) rfl rfl ?_
  refine (Qt 1)<|(Qa)<|Qn<|Qr ?_
  exact ⟨_, _, rfl, .cell (i := 1) rfl rfl (Uu 123) rfl (Uz 123) (arr_size _ _ _), .tmp rfl⟩
end Go.Proofs.YthljakcegoohlaaGreatDoor
namespace Go.Proofs.YthljakcegoohlaaGreatDoor
open Go Go.RowKit
variable {G : Mem}
set_option maxHeartbeats 400000 in
theorem ladd_fn (a b : Nat) (ha : a < PP) (hb : b < PP) : Fn Tryz.prog G 185 #[fe a, fe b] (fe ((a + b) % PP)) := by
  refine Qf1 Tryz.func185 ?_
  refine Qs<|Qp<|(Qh 0) fun r1=>(Qh 1) fun r2=>(QH 2) fun r3=>Qn<|Qs<|Qp<|(Qd 0)<|(Qd 1) ?_
  refine e_call rfl (Un 231) (add_ok a b ha hb) rfl rfl ?_
  refine (Qm)<|(Qx)<|(Qx)<|(QH 3) fun r4=>(Qt 3)<|(Qa)<|Qn<|Qs<|Qp<|(Qd 3)<|(Qt 2)<|Qn<|Qr ?_
  exact ⟨_, rfl, .cell (i := 2) rfl rfl (Uu 123) rfl (Uz 123) (arr_size _ _ _)⟩
set_option maxHeartbeats 400000 in
theorem lsub_fn (a b : Nat) (ha : a < PP) (hb : b < PP) : Fn Tryz.prog G 186 #[fe a, fe b] (fe ((a + PP - b) % PP)) := by
  refine Qf1 Tryz.func186 ?_
  refine Qs<|Qp<|(Qh 0) fun r1=>(Qh 1) fun r2=>(QH 2) fun r3=>Qn<|Qs<|Qp<|(Qd 0)<|(Qd 1) ?_
  refine e_call rfl (Un 232) (sub_ok a b ha hb) rfl rfl ?_
  refine (Qm)<|(Qx)<|(Qx)<|(QH 3) fun r4=>(Qt 3)<|(Qa)<|Qn<|Qs<|Qp<|(Qd 3)<|(Qt 2)<|Qn<|Qr ?_
  exact ⟨_, rfl, .cell (i := 2) rfl rfl (Uu 123) rfl (Uz 123) (arr_size _ _ _)⟩
set_option maxHeartbeats 400000 in
theorem lmul_fn (a b : Nat) (ha : a < PP) (hb : b < PP) : Fn Tryz.prog G 136 #[fe a, fe b] (fe (a * b % PP)) := by
  refine Qf1 Tryz.func136 ?_
  refine Qs<|Qp<|(Qh 0) fun r1=>(Qh 1) fun r2=>(QH 2) fun r3=>Qn<|Qs<|Qp<|(Qd 0)<|(Qd 1) ?_
  refine e_call rfl (Un 189) (mul_ok a b ha hb) rfl rfl ?_
  refine (Qm)<|(Qx)<|(Qx)<|(QH 3) fun r4=>(Qt 3)<|(Qa)<|Qn<|Qs<|Qp<|(Qd 3)<|(Qt 2)<|Qn<|Qr ?_
  exact ⟨_, rfl, .cell (i := 2) rfl rfl (Uu 123) rfl (Uz 123) (arr_size _ _ _)⟩
set_option maxHeartbeats 400000 in
theorem lsquare_fn (a : Nat) (ha : a < PP) : Fn Tryz.prog G 184 #[fe a] (fe (a * a % PP)) := by
  refine Qf1 Tryz.func184 ?_
  refine Qs<|Qp<|(Qh 0) fun r1=>(QH 1) fun r2=>Qn<|Qs<|Qp<|(Qd 0)<|(Qd 0) ?_
  refine e_call rfl (Un 136) (lmul_fn a a ha ha) rfl rfl ?_
  refine (Qt 1)<|Qn<|Qr ?_
  exact ⟨_, rfl, .cell (i := 1) rfl rfl (Uu 123) rfl (Uz 123) (arr_size _ _ _)⟩
set_option maxHeartbeats 400000 in
theorem twice_fn (p : Nat × Nat) (h : Lt2 p) : Fn Tryz.prog G 132 #[ptv p] (ptv (nDbl p)) := by
  obtain ⟨pl, hpl⟩ : ∃ pl, pl = (p.1 + p.2) % PP * ((p.1 + p.2) % PP) % PP := ⟨_, rfl⟩
  have hplL : pl < PP := by rw [hpl]; exact Nat.mod_lt _ (by decide)
  obtain ⟨mi, hmi⟩ : ∃ mi, mi = (p.1 + PP - p.2) % PP * ((p.1 + PP - p.2) % PP) % PP := ⟨_, rfl⟩
  have hmiL : mi < PP := by rw [hmi]; exact Nat.mod_lt _ (by decide)
  obtain ⟨re, hre⟩ : ∃ re, re = (pl + PP - mi) % PP := ⟨_, rfl⟩
  have hreL : re < PP := by rw [hre]; exact Nat.mod_lt _ (by decide)
  refine Qf1 Tryz.func132 ?_
  refine Qs<|Qp<|(Qh 0) fun r1=>(QH 1) fun r2=>Qn<|Qs<|Qp<|(QA 0 0) ?_
  refine e_loadS (i := 0) (Uu 123) rfl (Uz 123) rfl rfl (by omega) rfl ⟨[], trivial⟩ ?_
  refine e_as (pt_0 _) ?_
  refine (QA 4 1) ?_
  refine e_loadS (i := 0) (Uu 123) rfl (Uz 123) rfl rfl (by omega) rfl ⟨[], trivial⟩ ?_
  refine e_as (pt_4 _) ?_
  refine e_call rfl (Un 185) (ladd_fn _ _ h.1 h.2) rfl rfl ?_
  refine e_call rfl (Un 184) (lsquare_fn _ (Nat.mod_lt _ (by decide))) rfl rfl ?_
  refine e_as (congrArg fe hpl.symm) ?_
  refine (QH 2) fun r3=>(Qt 2)<|Qn<|Qs<|Qp<|(QA 0 0) ?_
  refine e_loadS (i := 0) (Uu 123) rfl (Uz 123) rfl rfl (by omega) rfl ⟨[], trivial⟩ ?_
  refine e_as (pt_0 _) ?_
  refine (QA 4 1) ?_
  refine e_loadS (i := 0) (Uu 123) rfl (Uz 123) rfl rfl (by omega) rfl ⟨[], trivial⟩ ?_
  refine e_as (pt_4 _) ?_
  refine e_call rfl (Un 186) (lsub_fn _ _ h.1 h.2) rfl rfl ?_
  refine e_call rfl (Un 184) (lsquare_fn _ (Nat.mod_lt _ (by decide))) rfl rfl ?_
  refine e_as (congrArg fe hmi.symm) ?_
  refine (QH 3) fun r4=>(Qt 3)<|Qn<|Qs<|Qp<|(Qd 2)<|(Qd 3) ?_
  refine e_call rfl (Un 186) (lsub_fn _ _ hplL hmiL) rfl rfl ?_
  refine e_as (congrArg fe hre.symm) ?_
  refine (QH 4) fun r5=>(Qt 4)<|Qn<|Qs<|(Qg)<|(Qd 2)<|(Qd 3) ?_
  refine e_call rfl (Un 136) (lmul_fn _ _ hplL hmiL) rfl rfl ?_
  refine e_as (congrArg fe (dbl_x h.2 hpl hmi)) ?_
  refine (Qd 4)<|(Qd 2) ?_
  refine e_build (arr .u64 4 (upd (fun _ => 0) 0 121665)) (Ub 123 rfl) (Uu 123 rfl) (Uz 31 rfl) rfl rfl rfl ?_
  refine e_as (fe_one 121665 (by decide)) ?_
  refine (Qd 4) ?_
  refine e_call rfl (Un 136) (lmul_fn _ _ (by decide) hreL) rfl rfl ?_
  refine e_call rfl (Un 185) (ladd_fn _ _ hplL (Nat.mod_lt _ (by decide))) rfl rfl ?_
  refine e_call rfl (Un 136) (lmul_fn _ _ hreL (Nat.mod_lt _ (by decide))) rfl rfl ?_
  refine e_as (congrArg fe (dbl_z h.2 hpl hmi hre)) ?_
  refine e_buildZ _ (Ub 126 rfl) (Uu 126 rfl) (Uz 123 rfl) rfl (fill_pt _ _) rfl ?_
  refine (Qt 1)<|Qn<|Qr ?_
  exact ⟨_, rfl, .cell (i := 1) rfl rfl (Uu 126) rfl (Uz 126) (arr_size _ _ _)⟩
set_option maxHeartbeats 400000 in
theorem lsum_fn (L : (Nat × Nat) × (Nat × Nat)) (U : Nat) (h : Lt2 L.1 ∧ Lt2 L.2) (hU : U < PP) : Fn Tryz.prog G 133 #[rgv L, fe U] (ptv (nWith U L.1 L.2)) := by
  obtain ⟨a, ha⟩ : ∃ a, a = (L.2.1 + PP - L.2.2) % PP * ((L.1.1 + L.1.2) % PP) % PP := ⟨_, rfl⟩
  have haL : a < PP := by rw [ha]; exact Nat.mod_lt _ (by decide)
  obtain ⟨b, hb⟩ : ∃ b, b = (L.2.1 + L.2.2) % PP * ((L.1.1 + PP - L.1.2) % PP) % PP := ⟨_, rfl⟩
  have hbL : b < PP := by rw [hb]; exact Nat.mod_lt _ (by decide)
  refine Qf1 Tryz.func133 ?_
  refine Qs<|Qp<|(Qh 0) fun r1=>(Qh 1) fun r2=>(QH 2) fun r3=>Qn<|Qs<|(Qg)<|(QA 8 1)<|(QA 8 0) ?_
  refine e_loadS (i := 0) (Uu 123) rfl (Uz 123) rfl rfl (by omega) rfl ⟨[], trivial⟩ ?_
  refine e_as (rg_8 _) ?_
  refine (QA 8 1)<|(QA 12 1) ?_
  refine e_loadS (i := 0) (Uu 123) rfl (Uz 123) rfl rfl (by omega) rfl ⟨[], trivial⟩ ?_
  refine e_as (rg_12 _) ?_
  refine e_call rfl (Un 186) (lsub_fn _ _ h.2.1 h.2.2) rfl rfl ?_
  refine (QA 0 0)<|(QA 0 0) ?_
  refine e_loadS (i := 0) (Uu 123) rfl (Uz 123) rfl rfl (by omega) rfl ⟨[], trivial⟩ ?_
  refine e_as (rg_0 _) ?_
  refine (QA 0 0)<|(QA 4 1) ?_
  refine e_loadS (i := 0) (Uu 123) rfl (Uz 123) rfl rfl (by omega) rfl ⟨[], trivial⟩ ?_
  refine e_as (rg_4 _) ?_
  refine e_call rfl (Un 185) (ladd_fn _ _ h.1.1 h.1.2) rfl rfl ?_
  refine e_call rfl (Un 136) (lmul_fn _ _ (Nat.mod_lt _ (by decide)) (Nat.mod_lt _ (by decide))) rfl rfl ?_
  refine e_as (congrArg fe ha.symm) ?_
  refine (QH 3) fun r4=>(Qt 3)<|Qn<|Qs<|(Qg)<|(QA 8 1)<|(QA 8 0) ?_
  refine e_loadS (i := 0) (Uu 123) rfl (Uz 123) rfl rfl (by omega) rfl ⟨[], trivial⟩ ?_
  refine e_as (rg_8 _) ?_
  refine (QA 8 1)<|(QA 12 1) ?_
  refine e_loadS (i := 0) (Uu 123) rfl (Uz 123) rfl rfl (by omega) rfl ⟨[], trivial⟩ ?_
  refine e_as (rg_12 _) ?_
  refine e_call rfl (Un 185) (ladd_fn _ _ h.2.1 h.2.2) rfl rfl ?_
  refine (QA 0 0)<|(QA 0 0) ?_
  refine e_loadS (i := 0) (Uu 123) rfl (Uz 123) rfl rfl (by omega) rfl ⟨[], trivial⟩ ?_
  refine e_as (rg_0 _) ?_
  refine (QA 0 0)<|(QA 4 1) ?_
  refine e_loadS (i := 0) (Uu 123) rfl (Uz 123) rfl rfl (by omega) rfl ⟨[], trivial⟩ ?_
  refine e_as (rg_4 _) ?_
  refine e_call rfl (Un 186) (lsub_fn _ _ h.1.1 h.1.2) rfl rfl ?_
  refine e_call rfl (Un 136) (lmul_fn _ _ (Nat.mod_lt _ (by decide)) (Nat.mod_lt _ (by decide))) rfl rfl ?_
  refine e_as (congrArg fe hb.symm) ?_
  refine (QH 4) fun r5=>(Qt 4)<|Qn<|Qs<|(Qg)<|(Qd 3)<|(Qd 4) ?_
  refine e_call rfl (Un 185) (ladd_fn _ _ haL hbL) rfl rfl ?_
  refine e_call rfl (Un 184) (lsquare_fn _ (Nat.mod_lt _ (by decide))) rfl rfl ?_
  refine (Qd 1)<|(Qd 3)<|(Qd 4) ?_
  refine e_call rfl (Un 186) (lsub_fn _ _ haL hbL) rfl rfl ?_
  refine e_call rfl (Un 184) (lsquare_fn _ (Nat.mod_lt _ (by decide))) rfl rfl ?_
  refine e_call rfl (Un 136) (lmul_fn _ _ hU (Nat.mod_lt _ (by decide))) rfl rfl ?_
  refine e_buildZ _ (Ub 126 rfl) (Uu 126 rfl) (Uz 123 rfl) rfl (fill_pt _ _) rfl ?_
  refine e_as (congrArg ptv ((with_ab h.1.2 h.2.2 U ha hb).symm.trans (with_turns h.1.2 h.2.2 U))) ?_
  refine (Qt 2)<|Qn<|Qr ?_
  exact ⟨_, rfl, .cell (i := 2) rfl rfl (Uu 126) rfl (Uz 126) (arr_size _ _ _)⟩
set_option maxHeartbeats 400000 in
theorem lswap_fn (L : (Nat × Nat) × (Nat × Nat)) (n : Nat) (hn : n ≤ 1) : Fn Tryz.prog G 131 #[rgv L, u n] (rgv (swp n L)) := by
  refine Qf1 Tryz.func131 ?_
  refine Qs<|Qp<|(Qh 0) fun r1=>(QH 1) fun r2=>Qn<|Qs<|Qs<|Qp<|(Qm)<|Qn<|Qb ?_
  refine Qz (fun kk E m => ∃ (k : Nat) (s : Nat → Nat), kk = 2 - k ∧ E = [(1, u n), (2, ptr r1), (4, ptr r2), (8, ii k)] ∧ m = [(0, some ⟨r1, arr .u64 16 s, 128⟩), (1, some ⟨r2, arr .u64 16 (fun _ => 0), 128⟩)] ∧ (k ≤ 2) ∧ (∀ t, t < 16 → s t = swt n (rgf L) (4 * k) t)) ⟨0, rgf L, rfl, rfl, rfl, by omega, fun t _ => (swt_none n (rgf L) t).symm⟩ ⟨rfl, rfl, rfl, rfl, trivial⟩ ⟨rfl, rfl, trivial⟩ ?_
  rintro kk E m ⟨k, s, rfl, rfl, rfl, hf0_0, hf0_1⟩
  refine Qs<|Qp<|(Ql)<|Qn<|Qs ?_
  refine e_cond rfl ?_ ?_
  · intro hc0
    have hc0 := of_decide_eq_true hc0
    refine Qk<|Qs<|Qb<|Qs<|Qp<|(Qm)<|(Qa)<|Qn<|Qs<|Qp<|(Qm)<|Qn<|Qb ?_
    refine Qz (fun kk E m => ∃ (j : Nat) (s2 : Nat → Nat), kk = 4 - j ∧ E = [(1, u n), (2, ptr r1), (4, ptr r2), (8, ii k), (5, ii k), (11, ii j)] ∧ m = [(0, some ⟨r1, arr .u64 16 s2, 128⟩), (1, some ⟨r2, arr .u64 16 (fun _ => 0), 128⟩)] ∧ (j ≤ 4) ∧ (∀ t, t < 16 → s2 t = swt n (rgf L) (4 * k + j) t)) ⟨0, s, rfl, rfl, rfl, by omega, hf0_1⟩ ⟨rfl, rfl, rfl, rfl, rfl, rfl, trivial⟩ ⟨rfl, rfl, trivial⟩ ?_
    rintro kk E m ⟨j, s2, rfl, rfl, rfl, hf1_0, hf1_1⟩
    refine Qs<|Qp<|(Ql)<|Qn<|Qs ?_
    refine e_cond rfl ?_ ?_
    · intro hc1
      have hc1 := of_decide_eq_true hc1
      refine Qk<|Qs<|Qb<|Qs<|Qp<|(Qm)<|(Qa)<|Qn<|Qs<|(Qg)<|(Qm)<|(Qm)<|(QA 0 0)<|(QB (4 * k))<|(QB (4 * k + j))<|(Q1 0)<|(Qm)<|(Qm)<|(QA 8 1)<|(QB (8 + 4 * k))<|(QB (8 + (4 * k + j)))<|(Q1 0) ?_
      refine e_xor_u rfl rfl rfl  ?_
      refine (Qm) ?_
      refine e_neg_u rfl rfl (by omega) ?_
      refine e_and_u rfl rfl rfl  ?_
      refine (Qa)<|Qn<|Qs<|(Qg)<|(Qm)<|(Qm)<|(QA 0 0)<|(QB (4 * k))<|(QB (4 * k + j))<|(Q1 0)<|(Qm) ?_
      refine e_xor_u rfl rfl rfl  ?_
      refine (QA 0 0)<|(QB (4 * k))<|(QB (4 * k + j))<|(Qu 0)<|Qn<|(Qg)<|(Qm)<|(Qm)<|(QA 8 1)<|(QB (8 + 4 * k))<|(QB (8 + (4 * k + j)))<|(Q1 0)<|(Qm) ?_
      refine e_xor_u rfl rfl rfl  ?_
      refine (QA 8 1)<|(QB (8 + 4 * k))<|(QB (8 + (4 * k + j)))<|(Qu 0)<|Qn<|Qp<|(Q2 1)<|(Qm)<|Qn ?_
      refine Qzr ⟨j + 1, upd (upd s2 (4 * k + j) _) (8 + (4 * k + j)) _, rfl, rfl, rfl, by omega, swap_step (c := 4 * k + j) hn (rgf_lt L) (by omega) hf1_1 _ _ _ rfl rfl rfl⟩ ⟨rfl, rfl, rfl, rfl, rfl, rfl, trivial⟩ ⟨rfl, rfl, trivial⟩ ?_
      omega
    · intro hc1
      have hc1 := of_decide_eq_false hc1
      have hj4 : j = 4 := by omega
      subst hj4
      refine Qe<|Qp<|(Q2 1)<|(Qm)<|Qn ?_
      refine Qzr ⟨k + 1, s2, rfl, rfl, rfl, by omega, by rw [show 4 * (k + 1) = 4 * k + 4 by omega]; exact hf1_1⟩ ⟨rfl, rfl, rfl, rfl, trivial⟩ ⟨rfl, rfl, trivial⟩ ?_
      omega
  · intro hc0
    have hc0 := of_decide_eq_false hc0
    have hk2 : k = 2 := by omega
    subst hk2
    refine Qe<|Qs<|Qp<|(Qd 0)<|(Qt 1)<|Qn<|Qr ?_
    rw [rgv, ← swap_end hf0_1]
    exact ⟨_, rfl, .cell (i := 1) rfl rfl (Uu 128) rfl (Uz 128) (arr_size _ _ _)⟩
set_option maxHeartbeats 400000 in
theorem ltells_fn (f : Nat → Nat) (hf : L8 32 f) : Fn Tryz.prog G 87 #[.agg (arr .u8 32 f)] (.bool (!allEq 32 f (fun _ => 0))) := by
  refine Qf1 Tryz.func87 ?_
  refine Qs<|Qp<|(Qh 0) fun r1=>(Qa)<|Qn<|Qs<|Qp<|(Qa)<|Qn<|Qs<|Qs<|Qp<|(Qd 0)<|(Qm)<|Qn<|Qb ?_
  refine Qz (fun kk E m => ∃ (k : Nat) (s : Nat), kk = 32 - k ∧ E = [(3, by8 s), (6, .agg (arr .u8 32 f)), (7, ii k)] ∧ m = [(0, some ⟨r1, arr .u8 32 f, 30⟩)] ∧ (k ≤ 32) ∧ (s < 256) ∧ (s = 0 ↔ ∀ j, j < k → f j = 0)) ⟨0, 0, rfl, rfl, rfl, by omega, by decide, ⟨fun _ j hj => absurd hj (Nat.not_lt_zero j), fun _ => rfl⟩⟩ ⟨rfl, rfl, rfl, trivial⟩ ⟨rfl, trivial⟩ ?_
  rintro kk E m ⟨k, s, rfl, rfl, rfl, hf0_0, hf0_1, hf0_2⟩
  refine Qs<|Qp<|(Ql)<|Qn<|Qs ?_
  refine e_cond rfl ?_ ?_
  · intro hc0
    have hc0 := of_decide_eq_true hc0
    refine Qk<|Qs<|Qb<|Qs<|Qp<|(QX)<|(Qa)<|Qn<|Qp<|(Qm)<|(Qm) ?_
    refine e_or_b rfl rfl rfl  ?_
    refine (Qa)<|Qn<|Qp<|(Q2 1)<|(Qm)<|Qn ?_
    refine Qzr ⟨k + 1, _, rfl, rfl, rfl, by omega, Nat.mod_lt _ (by decide), tells_step hf0_1 (hf k (by omega)) hf0_2⟩ ⟨rfl, rfl, rfl, trivial⟩ ⟨rfl, trivial⟩ ?_
    omega
  · intro hc0
    have hc0 := of_decide_eq_false hc0
    have hk : k = 32 := by omega
    subst hk
    refine Qe<|Qs<|Qp<|(Qm)<|(QN) ?_
    refine e_as (congrArg Value.bool (tells_end hf0_2)) ?_
    refine (Qa)<|Qn<|Qr ?_
    exact ⟨_, rfl, .tmp rfl⟩
set_option maxHeartbeats 400000 in
theorem lvalue_fn (p : Nat × Nat) (h : Lt2 p) : Fn Tryz.prog G 86 #[ptv p] (by32 (nMul p.1 (p.2 ^ EE % PP))) := by
  refine Qf1 Tryz.func86 ?_
  refine Qs<|Qp<|(Qh 0) fun r1=>(QH 1) fun r2=>Qn<|Qs<|Qp<|(QA 4 1) ?_
  refine e_loadS (i := 0) (Uu 123) rfl (Uz 123) rfl rfl (by omega) rfl ⟨[], trivial⟩ ?_
  refine e_as (pt_4 _) ?_
  refine e_call rfl (Un 134) (inv_ok _ h.2) rfl rfl ?_
  refine (Qm)<|(Qx)<|(Qx)<|(QH 2) fun r3=>(Qt 2)<|(Qa)<|Qn<|Qs<|Qp<|(QA 0 0) ?_
  refine e_loadS (i := 0) (Uu 123) rfl (Uz 123) rfl rfl (by omega) rfl ⟨[], trivial⟩ ?_
  refine e_as (pt_0 _) ?_
  refine (Qd 2) ?_
  refine e_call rfl (Un 136) (lmul_fn _ _ h.1 (Nat.mod_lt _ (by decide))) rfl rfl ?_
  refine e_call rfl (Un 135) (bytes_ok _ (Nat.mod_lt _ (by decide))) rfl rfl ?_
  refine (Qm)<|(Qx)<|(Qx)<|(QH 3) fun r4=>(Qt 3)<|(Qa)<|Qn<|Qs<|Qp<|(Qd 3)<|(Qt 1)<|Qn<|Qr ?_
  exact ⟨_, rfl, .cell (i := 1) rfl rfl (Uu 30) rfl (Uz 30) (arr_size _ _ _)⟩
set_option maxHeartbeats 400000 in
theorem lclamp_fn (f : Nat → Nat) (hf : L8 32 f) : Fn Tryz.prog G 85 #[.agg (arr .u8 32 f)] (.agg (arr .u8 32 (clam f))) := by
  refine Qf1 Tryz.func85 ?_
  refine Qs<|Qp<|(Qh 0) fun r1=>(QH 1) fun r2=>Qn<|Qs<|Qp<|(Qj 0)<|(Q1 0) ?_
  refine e_and_b (q := 248) rfl rfl rfl  ?_
  refine (Qj 0)<|(Qu 0)<|Qn<|Qs<|Qp<|(Qj 31)<|(Q1 0) ?_
  refine e_and_b (q := 127) rfl rfl rfl  ?_
  refine (Qj 31)<|(Qu 0)<|Qn<|Qs<|Qp<|(Qj 31)<|(Q1 0) ?_
  refine e_or_b (q := 64) rfl rfl rfl  ?_
  refine (Qj 31)<|(Qu 0)<|Qn<|Qs<|Qp<|(Qd 0)<|(Qt 1)<|Qn<|Qr ?_
  rw [← clam_eq hf rfl rfl rfl]
  exact ⟨_, rfl, .cell (i := 1) rfl rfl (Uu 30) rfl (Uz 30) (arr_size _ _ _)⟩
end Go.Proofs.YthljakcegoohlaaGreatDoor
namespace Go.Proofs.YthljakcegoohlaaGreatDoor
open Go Go.RowKit
variable {G : Mem}
set_option maxHeartbeats 1000000 in
theorem lclimb_fn (f : Nat → Nat) (U : Nat) (hf : L8 32 f) (hU : U < PP) : Fn Tryz.prog G 84 #[.agg (arr .u8 32 f), fe U] (rgv (nLad U (vb f 32) 255)) := by
  refine Qf1 Tryz.func84 ?_
  refine Qs<|Qp<|(Qh 0) fun r1=>(Qh 1) fun r2=>(QH 2) fun r3=>Qn<|Qs<|Qp ?_
  refine e_build (arr .u64 4 (upd (fun _ => 0) 0 1)) (Ub 123 rfl) (Uu 123 rfl) (Uz 31 rfl) rfl rfl rfl ?_
  refine e_as (fe_one 1 (by decide)) ?_
  refine e_build0 (Ub 123 rfl) (Uu 123 rfl) sis31 rfl ?_
  refine e_as (fe_none) ?_
  refine e_buildZ _ (Ub 126 rfl) (Uu 126 rfl) (Uz 123 rfl) rfl (fill_pt _ _) rfl ?_
  refine (Qd 1) ?_
  refine e_build (arr .u64 4 (upd (fun _ => 0) 0 1)) (Ub 123 rfl) (Uu 123 rfl) (Uz 31 rfl) rfl rfl rfl ?_
  refine e_as (fe_one 1 (by decide)) ?_
  refine e_buildZ _ (Ub 126 rfl) (Uu 126 rfl) (Uz 123 rfl) rfl (fill_pt _ _) rfl ?_
  refine e_buildZ _ (Ub 128 rfl) (Uu 128 rfl) (Uz 126 rfl) rfl (fill_rg _ _) rfl ?_
  refine (QH 3) fun r4=>(Qt 3)<|Qn<|Qs<|Qs<|Qp<|(Qa)<|Qn<|Qb ?_
  refine Qz (fun kk E m => ∃ (n : Nat), kk = 2 * n ∧ E = [(2, ptr r1), (3, ptr r2), (4, ptr r3), (5, ptr r4), (6, .int .i64 (((n : Nat) : Int) - 1))] ∧ m = [(0, some ⟨r1, arr .u8 32 f, 30⟩), (1, some ⟨r2, arr .u64 4 (wd U), 123⟩), (2, some ⟨r3, arr .u64 16 (fun _ => 0), 128⟩), (3, some ⟨r4, arr .u64 16 (rgf (nLad U (vb f 32) (255 - n))), 128⟩)] ∧ (n ≤ 255)) ⟨255, rfl, rfl, rfl, by omega⟩ ⟨rfl, rfl, rfl, rfl, rfl, trivial⟩ ⟨rfl, rfl, rfl, rfl, trivial⟩ ?_
  rintro kk E m ⟨n, rfl, rfl, rfl, hf0_0⟩
  refine Qs<|Qs<|Qp<|(Qm)<|(QE)<|Qn ?_
  refine e_cond rfl ?_ ?_
  · intro hc0
    have hc0 := of_decide_eq_true hc0
    obtain ⟨i, rfl⟩ : ∃ i, n = i + 1 := ⟨n - 1, by omega⟩
    have hfi := hf (i / 8) (by omega)
    obtain ⟨b, hb⟩ : ∃ b, b = vb f 32 / 2 ^ i % 2 := ⟨_, rfl⟩
    have hb1 : b ≤ 1 := by omega
    obtain ⟨L, hL⟩ : ∃ L, L = swp b (nLad U (vb f 32) (255 - (i + 1))) := ⟨_, rfl⟩
    have hLL : Lt2 L.1 ∧ Lt2 L.2 := by rw [hL]; exact swp_lt (nLad_lt hU _ _)
    refine Qk<|Qs<|Qb<|Qs<|Qp<|(Qm) ?_
    refine e_as (congrArg (Value.int .i64) (show ((i + 1 : Nat) : Int) - 1 = ((i : Nat) : Int) by omega)) ?_
    refine (Q5 8)<|(Qi)<|(Q1 0)<|(Qm) ?_
    refine e_as (congrArg (Value.int .i64) (show ((i + 1 : Nat) : Int) - 1 = ((i : Nat) : Int) by omega)) ?_
    refine (Q4 8) ?_
    refine e_shr_b rfl rfl rfl (by omega) ?_
    refine e_conv_u (Uu 5) (Uu 31) rfl rfl rfl ?_
    refine (Q9 1) ?_
    refine e_as (congrArg u ((bit_word hf i (by omega)).trans hb.symm)) ?_
    refine (Qa)<|Qn<|Qs<|Qp<|(Qd 3)<|(Qm) ?_
    refine e_call rfl (Un 131) (lswap_fn (nLad U (vb f 32) (255 - (i + 1))) b hb1) rfl rfl ?_
    refine e_as (congrArg rgv hL.symm) ?_
    refine (Qt 3)<|Qn<|Qs<|(Qg)<|(QA 0 0) ?_
    refine e_loadS (i := 3) (Uu 126) rfl (Uz 126) rfl rfl (by omega) rfl ⟨[], trivial⟩ ?_
    refine e_as (rg_pt0 _) ?_
    refine e_call rfl (Un 132) (twice_fn L.1 hLL.1) rfl rfl ?_
    refine (Qd 3)<|(Qd 1) ?_
    refine e_call rfl (Un 133) (lsum_fn L U hLL hU) rfl rfl ?_
    refine e_buildZ _ (Ub 128 rfl) (Uu 128 rfl) (Uz 126 rfl) rfl (fill_rg _ _) rfl ?_
    refine (Qt 3)<|Qn<|Qp<|(Qd 3)<|(Qm) ?_
    refine e_call rfl (Un 131) (lswap_fn _ b hb1) rfl rfl ?_
    refine e_as (congrArg rgv (lad_step hU (by omega) hb hL)) ?_
    refine (Qt 3)<|Qn<|Qp<|(Qm) ?_
    refine e_sub_z (q := 1) rfl rfl rfl (by omega) (by omega) ?_
    refine (Qa)<|Qn ?_
    refine Qzr ⟨i, rfl, rfl, rfl, by omega⟩ ⟨rfl, rfl, rfl, rfl, congrArg (fun z => some (Value.int .i64 z)) (show ((i + 1 : Nat) : Int) - 1 - 1 = ((i : Nat) : Int) - 1 by omega), trivial⟩ ⟨rfl, rfl, rfl, rfl, trivial⟩ ?_
    omega
  · intro hc0
    have hc0 := of_decide_eq_false hc0
    have hn0 : n = 0 := by omega
    subst hn0
    refine Qe<|Qs<|Qp<|(Qd 3)<|(Qt 2)<|Qn<|Qr ?_
    exact ⟨_, rfl, .cell (i := 2) rfl rfl (Uu 128) rfl (Uz 128) (arr_size _ _ _)⟩
set_option maxHeartbeats 400000 in
theorem lmult_fn (f g : Nat → Nat) (hf : L8 32 f) (hg : L8 32 g) : Fn Tryz.prog G 54 #[.agg (arr .u8 32 f), .agg (arr .u8 32 g)] (.tuple #[by32 (nOut (pnt g) (sec f)), .bool (!decide (nOut (pnt g) (sec f) = 0))]) := by
  refine Qf2 Tryz.func54 ?_
  refine Qs<|Qp<|(Qh 0) fun r1=>(Qh 1) fun r2=>(QH 2) fun r3=>(Qa)<|Qn<|Qs<|Qp<|(Qd 1) ?_
  refine e_call rfl (Un 83) (from_fn g hg) rfl rfl ?_
  refine (QH 3) fun r4=>(Qt 3)<|Qn<|Qs<|(Qg)<|(Qd 0) ?_
  refine e_call rfl (Un 85) (lclamp_fn f hf) rfl rfl ?_
  refine (Qd 3) ?_
  refine e_call rfl (Un 84) (lclimb_fn (clam f) (pnt g) (clam_lt hf) (pnt_lt g)) rfl rfl ?_
  refine (QH 4) fun r5=>(Qt 4)<|Qn<|Qs<|Qp<|(QA 0 0) ?_
  refine e_loadS (i := 4) (Uu 126) rfl (Uz 126) rfl rfl (by omega) rfl ⟨[], trivial⟩ ?_
  refine e_as (rg_pt0 _) ?_
  refine e_call rfl (Un 86) (lvalue_fn (nLad (pnt g) (sec f) 255).1 (nLad_lt (pnt_lt g) _ _).1) rfl rfl ?_
  refine (QH 5) fun r6=>(Qt 5)<|Qn<|Qs<|(Qq ⟨[r3], 1, [], none⟩) ?_
  refine e_loadA (i := 5) (Uu 30) rfl (Uz 30) rfl rfl (arr_size _ _ _) rfl ⟨[2], rfl, rfl, trivial⟩ ?_
  refine e_loadA (i := 5) (Uu 30) rfl (Uz 30) rfl rfl (arr_size _ _ _) rfl ⟨[2], rfl, rfl, trivial⟩ ?_
  refine e_call rfl (Un 87) (ltells_fn (bt (nOut (pnt g) (sec f))) (fun j _ => bt_lt _ j)) rfl rfl ?_
  refine e_as (congrArg (fun z => Value.bool (!z)) (bt_none (nOut_lt _ _))) ?_
  refine e_storeA (i := 2) (Uz 30) rfl rfl (arr_size _ _ _) arr_one rfl (arr_sz _ _ _ _ _) (.inr (by simp)) ?_
  refine (Qa)<|Qn<|Qr ?_
  exact ⟨_, _, rfl, .cell (i := 2) rfl rfl (Uu 30) rfl (Uz 30) (arr_size _ _ _), .tmp rfl⟩
set_option maxHeartbeats 400000 in
theorem lbase_fn (f : Nat → Nat) (hf : L8 32 f) : Fn Tryz.prog G 22 #[.agg (arr .u8 32 f)] (by32 (nOut 9 (sec f))) := by
  refine Qf1 Tryz.func22 ?_
  refine Qs<|Qp<|(Qh 0) fun r1=>(QH 1) fun r2=>Qn<|Qs<|Qp<|(Qd 0) ?_
  refine e_build (arr .u8 32 (upd (fun _ => 0) 0 9)) (Ub 30 rfl) (Uu 30 rfl) (Uz 5 rfl) rfl (by kernel_rfl) rfl ?_
  refine e_call rfl (Un 54) (lmult_fn f (upd (fun _ => 0) 0 9) hf nine_lt) rfl rfl ?_
  refine e_as (congrArg (fun z => Value.tuple #[by32 (nOut z (sec f)), .bool (!decide (nOut z (sec f) = 0))]) pnt_nine) ?_
  refine (Qm)<|(Qx)<|(Qx)<|(QH 2) fun r3=>(Qt 2)<|(Qa)<|Qn<|Qs<|Qp<|(Qd 2)<|(Qt 1)<|Qn<|Qr ?_
  exact ⟨_, rfl, .cell (i := 1) rfl rfl (Uu 30) rfl (Uz 30) (arr_size _ _ _)⟩
end Go.Proofs.YthljakcegoohlaaGreatDoor
namespace Go.Proofs.YthljakcegoohlaaGreatDoor
open Go Go.RowKit
theorem symHashD {G : Mem} (hO : DOR ∈ G) (y : SY) (hy : okY y) (v : Value) (l : List Nat) (hv : Shows G 1 v l.length (l.map by8)) (hb : ∀ b ∈ l, b < 256) (hz : l.length ≤ 1000000) : Fn Tryz.prog G 26 #[SVy y, v] (SVy (hashP y l)) :=
  (dhash9_fn (G := G) y.1 y.2.1 y.2.2.1 y.2.2.2.1 y.2.2.2.2 v l (hv.mono fun _ h => List.mem_cons_of_mem _ h) hb hy.2.2.2 (by omega)).more (in1 hO)
theorem symKeyD {G : Mem} (hO : DOR ∈ G) (y : SY) (hy : okY y) (v : Value) (l : List Nat) (hv : Shows G 1 v l.length (l.map by8)) (hb : ∀ b ∈ l, b < 256) (hz : l.length ≤ 1000000) : Fn Tryz.prog G 195 #[SVy y, v] (SVy (keyP y l)) := by
  have h := (dkey9_fn (G := G) y.1 y.2.1 y.2.2.1 y.2.2.2.1 y.2.2.2.2 v l (hv.mono fun _ h => List.mem_cons_of_mem _ h) hb hy.2.2.1 (by omega)).more (in1 hO)
  unfold keyP
  generalize kB y.2.2.2.1 l = fb at h ⊢
  generalize kA y.2.2.2.1 l = fa at h ⊢
  exact h
variable {G : Mem}
set_option maxHeartbeats 2000000 in
theorem hashed_fn (hO : DOR ∈ G) (y : SY) (hy : okY y) (f : Nat → Nat) (hf : B32 f) : Fn Tryz.prog G 93 #[SVy y, .agg (arr .u8 32 f)] (SVy (hashP y (ky f))) := by
  obtain ⟨y2, hy2⟩ : ∃ y2, y2 = hashP y (ky f) := ⟨_, rfl⟩
  rw [← hy2]
  refine Qf1 Tryz.func93 ?_
  refine Qs<|Qp<|(Qh 0) fun r1=>(Qh 1) fun r2=>(QH 2) fun r3=>Qn<|Qs<|(Qg)<|(QD 0) ?_
  refine e_as (show _ = SVy y from rfl) ?_
  refine e_sliceA 0 32 (Uu 30) (Uz 5) rfl rfl rfl rfl rfl (by omega) (by omega) (by omega) rfl ?_
  refine e_callS rfl rfl (Un 26) (seen_app seenG (seen1 1 rfl ⟨[], trivial⟩)) (symHashD (G := G ++ [(⟨r2, arr .u8 32 f, 30⟩ : Blk)]) (List.mem_append_left _ hO) y hy _ (ky f) ((shows32 _ f _).mono (fun x h => List.mem_append_right _ h)) (ky_lt hf) (by simp)) rfl rfl ?_
  refine e_as (congrArg SVy hy2.symm) ?_
  refine e_storeA (i := 2) (Uz 35) rfl rfl (arrv_size _ _) (cells_one ⟨fun _ => rfl, fun _ => rfl, fun _ => rfl, fun _ => rfl, fun _ => rfl, trivial⟩) rfl cells_sz (.inl rfl) ?_
  refine Qn<|Qr ?_
  exact ⟨_, rfl, .cell (i := 2) rfl rfl (Uu 35) rfl (Uz 35) (arrv_size _ _)⟩
set_option maxHeartbeats 4000000 in
theorem shown_fn (hO : DOR ∈ G) (b : List Nat) (l : Bool) (vp v0 v1 vt : Value) (fi : Bool) (tn : Int) (dd : Bool) (y : SY) (r : RS) (ow : Nat → Nat) (vk : Value) (us : Int) (f : Nat → Nat) (ps : List (Nat → Nat)) (hk : Shows G 32 vk ps.length (psC ps)) (h1 : ones vp v0 v1 vt vk) (hy : okY y) (hf : B32 f) : Fn Tryz.prog G 145 #[.agg (shC b l vp v0 v1 vt fi tn dd y ow r vk us), .agg (arr .u8 32 f)] (.agg (shC b l vp v0 v1 vt fi tn dd (freshP (npk ps) y f) ow r vk us)) := by
  obtain ⟨z, hz⟩ : ∃ z, z = freshP (npk ps) y f := ⟨_, rfl⟩
  obtain ⟨y2, hy2⟩ : ∃ y2, y2 = hashP y (ky f) := ⟨_, rfl⟩
  have hyb : okY y2 := by rw [hy2]; exact okY_hash hy _
  rw [← hz]
  refine Qf1 Tryz.func145 ?_
  refine Qs<|Qp<|(Qh 0) fun r1=>(Qh 1) fun r2=>(QH 2) fun r3=>Qn<|Qs<|Qp<|(Qf 9) ?_
  refine e_ldK (i := 0) 9 5 (Uu 35 rfl) rfl (Uz 35 rfl) rfl rfl rfl rfl (by decide) rfl ⟨[], trivial⟩ ?_
  refine e_as (show _ = SVy y from rfl) ?_
  refine (Qd 1) ?_
  refine e_call rfl (Un 93) (hashed_fn hO y hy f hf) rfl rfl ?_
  refine e_as (congrArg SVy hy2.symm) ?_
  refine (Qf 9) ?_
  refine e_stK (i := 0) 9 5 (Uz 35 rfl) rfl rfl ⟨fun _ => rfl, fun _ => rfl, fun _ => rfl, fun _ => rfl, fun _ => rfl, trivial⟩ rfl rfl rfl rfl (by decide) (.inl rfl) ?_
  refine e_blk (c' := shC b l vp v0 v1 vt fi tn dd y2 ow r vk us) rfl ?_
  refine Qn<|Qs<|Qs<|Qp<|(Qf 238)<|(QV 21 0)<|(QC hk)<|(QG)<|Qn ?_
  refine e_cond rfl ?_ ?_
  · intro hc0
    have hc0 := of_decide_eq_true hc0
    have hz3 : z = keyP y2 (ky f) := by rw [hz, freshP, if_pos (by show npk ps = true; exact decide_eq_true (by omega)), ← hy2]
    refine (Qg)<|(Qf 9) ?_
    refine e_ldK (i := 0) 9 5 (Uu 35 rfl) rfl (Uz 35 rfl) rfl rfl rfl rfl (by decide) rfl ⟨[], trivial⟩ ?_
    refine e_as (show _ = SVy y2 from rfl) ?_
    refine e_sliceA 0 32 (Uu 30) (Uz 5) rfl rfl rfl rfl rfl (by omega) (by omega) (by omega) rfl ?_
    refine e_callS rfl rfl (Un 195) (seen_app seenG (seen1 1 rfl ⟨[], trivial⟩)) (symKeyD (G := G ++ [(⟨r2, arr .u8 32 f, 30⟩ : Blk)]) (List.mem_append_left _ hO) y2 hyb _ (ky f) ((shows32 _ f _).mono (fun x h => List.mem_append_right _ h)) (ky_lt hf) (by simp)) rfl rfl ?_
    refine e_as (show _ = SVy z by rw [hz3]) ?_
    refine (Qf 9) ?_
    refine e_stK (i := 0) 9 5 (Uz 35 rfl) rfl rfl ⟨fun _ => rfl, fun _ => rfl, fun _ => rfl, fun _ => rfl, fun _ => rfl, trivial⟩ rfl rfl rfl rfl (by decide) (.inl rfl) ?_
    refine e_blk (c' := shC b l vp v0 v1 vt fi tn dd z ow r vk us) rfl ?_
    refine Qn<|Qs<|Qp<|(QD 0) ?_
    refine e_storeA (i := 2) (Uz 37) rfl rfl (arrv_size _ _) (cells_one ⟨fun _ => rfl, fun _ => rfl, fun _ => h1.1, fun _ => h1.2.1, fun _ => h1.2.2.1, fun _ => h1.2.2.2.1, fun _ => rfl, fun _ => rfl, fun _ => rfl, fun _ => rfl, fun _ => rfl, fun _ => rfl, fun _ => rfl, fun _ => rfl, fun _ => rfl, fun _ => rfl, fun _ => rfl, fun _ => rfl, fun _ => rfl, fun _ => rfl, fun _ => rfl, fun _ => h1.2.2.2.2, fun _ => rfl, trivial⟩) rfl cells_sz (.inl rfl) ?_
    refine Qn<|Qr ?_
    exact ⟨_, rfl, .cell (i := 2) rfl rfl (Uu 37) rfl (Uz 37) (arrv_size _ _)⟩
  · intro hc0
    have hc0 := of_decide_eq_false hc0
    obtain rfl : z = y2 := by rw [hz, freshP, if_neg (by show ¬ npk ps = true; rw [npk, decide_eq_false (by omega)]; decide), ← hy2]
    refine Qk<|Qs<|Qp<|(QD 0) ?_
    refine e_storeA (i := 2) (Uz 37) rfl rfl (arrv_size _ _) (cells_one ⟨fun _ => rfl, fun _ => rfl, fun _ => h1.1, fun _ => h1.2.1, fun _ => h1.2.2.1, fun _ => h1.2.2.2.1, fun _ => rfl, fun _ => rfl, fun _ => rfl, fun _ => rfl, fun _ => rfl, fun _ => rfl, fun _ => rfl, fun _ => rfl, fun _ => rfl, fun _ => rfl, fun _ => rfl, fun _ => rfl, fun _ => rfl, fun _ => rfl, fun _ => rfl, fun _ => h1.2.2.2.2, fun _ => rfl, trivial⟩) rfl cells_sz (.inl rfl) ?_
    refine Qn<|Qr ?_
    exact ⟨_, rfl, .cell (i := 2) rfl rfl (Uu 37) rfl (Uz 37) (arrv_size _ _)⟩
set_option maxHeartbeats 4000000 in
theorem fresh_fn (hO : DOR ∈ G) (b : List Nat) (l : Bool) (vp v0 v1 vt : Value) (fi : Bool) (tn : Int) (dd : Bool) (y : SY) (r : RS) (ow : Nat → Nat) (vk : Value) (us : Int) (f : Nat → Nat) (ps : List (Nat → Nat)) (hk : Shows G 32 vk ps.length (psC ps)) (h1 : ones vp v0 v1 vt vk) (hy : okY y) (hf : B32 f) : Fn Tryz.prog G 94 #[.agg (shC b l vp v0 v1 vt fi tn dd y ow r vk us), .agg (arr .u8 32 f)] (.tuple #[.agg (shC b l vp v0 v1 vt fi tn dd (freshP (npk ps) y (pubK f)) ow (f, true, r.2.2) vk us), .agg (arr .u8 32 (pubK f))]) := by
  obtain ⟨z, hz⟩ : ∃ z, z = freshP (npk ps) y (pubK f) := ⟨_, rfl⟩
  rw [← hz]
  refine Qf2 Tryz.func94 ?_
  refine Qs<|Qp<|(Qh 0) fun r1=>(Qh 1) fun r2=>(QH 2) fun r3=>(QH 3) fun r4=>Qn<|Qs<|Qp<|(Qd 1)<|(Qf 139) ?_
  refine e_stC (i := 0) 15 (Uz 30) rfl rfl rfl rfl (by decide) (.inl rfl) ?_
  refine (Qf 171) ?_
  refine e_stV (i := 0) 16 (Uz 4) rfl rfl rfl rfl rfl (by decide) (.inl rfl) ?_
  refine e_blk (c' := shC b l vp v0 v1 vt fi tn dd y ow (f, true, r.2.2) vk us) rfl ?_
  refine Qn<|Qs<|Qp<|(Qd 1) ?_
  refine e_call rfl (Un 22) (lbase_fn f hf) rfl rfl ?_
  refine e_as (show _ = Value.agg (arr .u8 32 (pubK f)) from rfl) ?_
  refine (QH 4) fun r5=>(Qt 4)<|Qn<|Qs<|(Qq ⟨[r3, r4], 1, [], none⟩) ?_
  refine e_loadA (i := 0) (Uu 37) rfl (Uz 37) rfl rfl (arrv_size _ _) rfl ⟨[2, 3], rfl, rfl, rfl, rfl, trivial⟩ ?_
  refine e_loadA (i := 4) (Uu 30) rfl (Uz 30) rfl rfl (arr_size _ _ _) rfl ⟨[2, 3], rfl, rfl, rfl, rfl, trivial⟩ ?_
  refine e_call rfl (Un 145) (shown_fn hO b l vp v0 v1 vt fi tn dd y (f, true, r.2.2) ow vk us (pubK f) ps hk h1 hy (pubK_lt f)) rfl rfl ?_
  refine e_as (show _ = Value.agg (shC b l vp v0 v1 vt fi tn dd z ow (f, true, r.2.2) vk us) by rw [hz]) ?_
  refine e_loadA (i := 4) (Uu 30) rfl (Uz 30) rfl rfl (arr_size _ _ _) rfl ⟨[2, 3], rfl, rfl, rfl, rfl, trivial⟩ ?_
  refine e_storeA (i := 2) (Uz 37) rfl rfl (arrv_size _ _) (cells_one ⟨fun _ => rfl, fun _ => rfl, fun _ => h1.1, fun _ => h1.2.1, fun _ => h1.2.2.1, fun _ => h1.2.2.2.1, fun _ => rfl, fun _ => rfl, fun _ => rfl, fun _ => rfl, fun _ => rfl, fun _ => rfl, fun _ => rfl, fun _ => rfl, fun _ => rfl, fun _ => rfl, fun _ => rfl, fun _ => rfl, fun _ => rfl, fun _ => rfl, fun _ => rfl, fun _ => h1.2.2.2.2, fun _ => rfl, trivial⟩) rfl cells_sz (.inr (by simp)) ?_
  refine e_storeA (i := 3) (Uz 30) rfl rfl (arr_size _ _ _) arr_one rfl (arr_sz _ _ _ _ _) (.inr (by simp)) ?_
  refine Qn<|Qr ?_
  exact ⟨_, _, rfl, .cell (i := 2) rfl rfl (Uu 37) rfl (Uz 37) (arrv_size _ _), .cell (i := 3) rfl rfl (Uu 30) rfl (Uz 30) (arr_size _ _ _)⟩
set_option maxHeartbeats 4000000 in
theorem newest_fn (hO : DOR ∈ G) (b : List Nat) (l : Bool) (vp v0 v1 vt : Value) (fi : Bool) (tn : Int) (dd : Bool) (y : SY) (r : RS) (ow : Nat → Nat) (vk : Value) (us : Int) (f : Nat → Nat) (ps : List (Nat → Nat)) (hk : Shows G 32 vk ps.length (psC ps)) (h1 : ones vp v0 v1 vt vk) (hy : okY y) (hf : B32 f) : Fn Tryz.prog G 95 #[.agg (shC b l vp v0 v1 vt fi tn dd y ow r vk us), .agg (arr .u8 32 f)] (.agg (shC b l vp v0 v1 vt fi tn dd (freshP (npk ps) y f) ow (r.1, r.2.1, r.2.2.1, r.2.2.2.1, f, true) vk us)) := by
  obtain ⟨z, hz⟩ : ∃ z, z = freshP (npk ps) y f := ⟨_, rfl⟩
  rw [← hz]
  refine Qf1 Tryz.func95 ?_
  refine Qs<|Qp<|(Qh 0) fun r1=>(Qh 1) fun r2=>(QH 2) fun r3=>Qn<|Qs<|Qp<|(Qd 1)<|(Qf 205) ?_
  refine e_stC (i := 0) 19 (Uz 30) rfl rfl rfl rfl (by decide) (.inl rfl) ?_
  refine (Qf 237) ?_
  refine e_stV (i := 0) 20 (Uz 4) rfl rfl rfl rfl rfl (by decide) (.inl rfl) ?_
  refine e_blk (c' := shC b l vp v0 v1 vt fi tn dd y ow (r.1, r.2.1, r.2.2.1, r.2.2.2.1, f, true) vk us) rfl ?_
  refine Qn<|Qs<|Qp<|(QD 0)<|(Qd 1) ?_
  refine e_call rfl (Un 145) (shown_fn hO b l vp v0 v1 vt fi tn dd y (r.1, r.2.1, r.2.2.1, r.2.2.2.1, f, true) ow vk us f ps hk h1 hy hf) rfl rfl ?_
  refine e_as (show _ = Value.agg (shC b l vp v0 v1 vt fi tn dd z ow (r.1, r.2.1, r.2.2.1, r.2.2.2.1, f, true) vk us) by rw [hz]) ?_
  refine e_storeA (i := 2) (Uz 37) rfl rfl (arrv_size _ _) (cells_one ⟨fun _ => rfl, fun _ => rfl, fun _ => h1.1, fun _ => h1.2.1, fun _ => h1.2.2.1, fun _ => h1.2.2.2.1, fun _ => rfl, fun _ => rfl, fun _ => rfl, fun _ => rfl, fun _ => rfl, fun _ => rfl, fun _ => rfl, fun _ => rfl, fun _ => rfl, fun _ => rfl, fun _ => rfl, fun _ => rfl, fun _ => rfl, fun _ => rfl, fun _ => rfl, fun _ => h1.2.2.2.2, fun _ => rfl, trivial⟩) rfl cells_sz (.inl rfl) ?_
  refine Qn<|Qr ?_
  exact ⟨_, rfl, .cell (i := 2) rfl rfl (Uu 37) rfl (Uz 37) (arrv_size _ _)⟩
end Go.Proofs.YthljakcegoohlaaGreatDoor
namespace Go.Proofs.YthljakcegoohlaaGreatDoor
open Go Go.RowKit
variable {G : Mem}
set_option maxHeartbeats 4000000 in
theorem knowing_t1 (hO : DOR ∈ G) (b : List Nat) (l : Bool) (vp v0 v1 vt : Value) (fi : Bool) (tn : Int) (dd : Bool) (y : SY) (r : RS) (ow : Nat → Nat) (vk : Value) (us : Int) (ps : List (Nat → Nat)) (hk : Shows G 32 vk ps.length (psC ps)) (h1 : ones vp v0 v1 vt vk) (hy : okY y) (hr : okR r) (ho : B32 ow) (ea : Nat → Nat) (he : B32 ea) : Fn Tryz.prog G 58 #[.agg (shC b l vp v0 v1 vt fi tn dd y ow r vk us), ii 1, .bool true, .agg (arr .u8 32 ea)] (.agg (shC b l vp v0 v1 vt fi tn dd (freshP (npk ps) y (pubK ea)) ow (ea, true, r.2.2) vk us)) := by
  have _u1 := ho
  have _u2 := hr
  have _u3 := he
  have _u4 := hy
  obtain ⟨z, hz⟩ : ∃ z, z = freshP (npk ps) y (pubK ea) := ⟨_, rfl⟩
  rw [← hz]
  refine Qf1 Tryz.func58 ?_
  refine Qs<|Qp<|(Qh 0) fun r1=>(Qh 1) fun r2=>(QH 2) fun r3=>Qn<|Qs<|Qb<|Qs<|Qp<|(Qm)<|(Qc) ?_
  refine e_as (congrArg Value.bool (decide_eq_false (by decide))) ?_
  refine (Qm)<|(Qo)<|(QF)<|(Qa)<|Qn<|(Qcf)<|Qs<|Qp<|(Qm)<|(Qc) ?_
  refine e_as (congrArg Value.bool (decide_eq_false (by decide))) ?_
  refine (Qa)<|Qn<|(Qcf)<|Qs<|Qp<|(Qm)<|(Qa)<|Qn<|(Qct)<|Qp<|(QD 0)<|(Qd 1) ?_
  refine e_call rfl (Un 94) (fresh_fn hO b l vp v0 v1 vt fi tn dd y r ow vk us ea ps hk h1 hy he) rfl rfl ?_
  refine e_as (show _ = Value.tuple #[.agg (shC b l vp v0 v1 vt fi tn dd z ow (ea, true, r.2.2) vk us), .agg (arr .u8 32 (pubK ea))] by rw [hz]) ?_
  refine (Qm)<|(Qx)<|(Qx) ?_
  refine e_storeA (i := 0) (Uz 37) rfl rfl (arrv_size _ _) (cells_one ⟨fun _ => rfl, fun _ => rfl, fun _ => h1.1, fun _ => h1.2.1, fun _ => h1.2.2.1, fun _ => h1.2.2.2.1, fun _ => rfl, fun _ => rfl, fun _ => rfl, fun _ => rfl, fun _ => rfl, fun _ => rfl, fun _ => rfl, fun _ => rfl, fun _ => rfl, fun _ => rfl, fun _ => rfl, fun _ => rfl, fun _ => rfl, fun _ => rfl, fun _ => rfl, fun _ => h1.2.2.2.2, fun _ => rfl, trivial⟩) rfl cells_sz (.inl rfl) ?_
  refine Qn<|Qs<|Qp<|(QD 0) ?_
  refine e_storeA (i := 2) (Uz 37) rfl rfl (arrv_size _ _) (cells_one ⟨fun _ => rfl, fun _ => rfl, fun _ => h1.1, fun _ => h1.2.1, fun _ => h1.2.2.1, fun _ => h1.2.2.2.1, fun _ => rfl, fun _ => rfl, fun _ => rfl, fun _ => rfl, fun _ => rfl, fun _ => rfl, fun _ => rfl, fun _ => rfl, fun _ => rfl, fun _ => rfl, fun _ => rfl, fun _ => rfl, fun _ => rfl, fun _ => rfl, fun _ => rfl, fun _ => h1.2.2.2.2, fun _ => rfl, trivial⟩) rfl cells_sz (.inl rfl) ?_
  refine Qn<|Qr ?_
  exact ⟨_, rfl, .cell (i := 2) rfl rfl (Uu 37) rfl (Uz 37) (arrv_size _ _)⟩
set_option maxHeartbeats 4000000 in
theorem knowing_t2 (hO : DOR ∈ G) (b : List Nat) (l : Bool) (vp v0 v1 vt : Value) (fi : Bool) (tn : Int) (dd : Bool) (y : SY) (r : RS) (ow : Nat → Nat) (vk : Value) (us : Int) (ps : List (Nat → Nat)) (hk : Shows G 32 vk ps.length (psC ps)) (h1 : ones vp v0 v1 vt vk) (hy : okY y) (hr : okR r) (ho : B32 ow) (ea : Nat → Nat) (he : B32 ea) : Fn Tryz.prog G 58 #[.agg (shC b l vp v0 v1 vt fi tn dd y ow r vk us), ii 2, .bool true, .agg (arr .u8 32 ea)] (.agg (shC b l vp v0 v1 vt fi tn dd (hashP y (ky (pubK ow))) ow r vk us)) := by
  have _u1 := ho
  have _u2 := hr
  have _u3 := he
  have _u4 := hy
  have _u5 := hk
  obtain ⟨y2, hy2⟩ : ∃ y2, y2 = hashP y (ky (pubK ow)) := ⟨_, rfl⟩
  rw [← hy2]
  refine Qf1 Tryz.func58 ?_
  refine Qs<|Qp<|(Qh 0) fun r1=>(Qh 1) fun r2=>(QH 2) fun r3=>Qn<|Qs<|Qb<|Qs<|Qp<|(Qm)<|(Qc) ?_
  refine e_as (congrArg Value.bool (decide_eq_true (by decide))) ?_
  refine (Qm)<|(Qy)<|(Qm)<|(QT)<|(Qa)<|Qn<|(Qct)<|(Qg)<|(Qf 9) ?_
  refine e_ldK (i := 0) 9 5 (Uu 35 rfl) rfl (Uz 35 rfl) rfl rfl rfl rfl (by decide) rfl ⟨[], trivial⟩ ?_
  refine e_as (show _ = SVy y from rfl) ?_
  refine (Qf 107)<|(Qv 14 0) ?_
  refine e_call rfl (Un 22) (lbase_fn ow ho) rfl rfl ?_
  refine e_as (show _ = Value.agg (arr .u8 32 (pubK ow)) from rfl) ?_
  refine e_call rfl (Un 93) (hashed_fn hO y hy (pubK ow) (pubK_lt ow)) rfl rfl ?_
  refine e_as (congrArg SVy hy2.symm) ?_
  refine (Qf 9) ?_
  refine e_stK (i := 0) 9 5 (Uz 35 rfl) rfl rfl ⟨fun _ => rfl, fun _ => rfl, fun _ => rfl, fun _ => rfl, fun _ => rfl, trivial⟩ rfl rfl rfl rfl (by decide) (.inl rfl) ?_
  refine e_blk (c' := shC b l vp v0 v1 vt fi tn dd y2 ow r vk us) rfl ?_
  refine Qn<|Qs<|Qp<|(QD 0) ?_
  refine e_storeA (i := 2) (Uz 37) rfl rfl (arrv_size _ _) (cells_one ⟨fun _ => rfl, fun _ => rfl, fun _ => h1.1, fun _ => h1.2.1, fun _ => h1.2.2.1, fun _ => h1.2.2.2.1, fun _ => rfl, fun _ => rfl, fun _ => rfl, fun _ => rfl, fun _ => rfl, fun _ => rfl, fun _ => rfl, fun _ => rfl, fun _ => rfl, fun _ => rfl, fun _ => rfl, fun _ => rfl, fun _ => rfl, fun _ => rfl, fun _ => rfl, fun _ => h1.2.2.2.2, fun _ => rfl, trivial⟩) rfl cells_sz (.inl rfl) ?_
  refine Qn<|Qr ?_
  exact ⟨_, rfl, .cell (i := 2) rfl rfl (Uu 37) rfl (Uz 37) (arrv_size _ _)⟩
set_option maxHeartbeats 4000000 in
theorem knowing_f1 (hO : DOR ∈ G) (b : List Nat) (l : Bool) (vp v0 v1 vt : Value) (fi : Bool) (tn : Int) (dd : Bool) (y : SY) (r : RS) (ow : Nat → Nat) (vk : Value) (us : Int) (ps : List (Nat → Nat)) (hk : Shows G 32 vk ps.length (psC ps)) (h1 : ones vp v0 v1 vt vk) (hy : okY y) (hr : okR r) (ho : B32 ow) (ea : Nat → Nat) (he : B32 ea) : Fn Tryz.prog G 58 #[.agg (shC b l vp v0 v1 vt fi tn dd y ow r vk us), ii 1, .bool false, .agg (arr .u8 32 ea)] (.agg (shC b l vp v0 v1 vt fi tn dd (freshP (npk ps) y ea) ow (r.1, r.2.1, r.2.2.1, r.2.2.2.1, ea, true) vk us)) := by
  have _u1 := ho
  have _u2 := hr
  have _u3 := he
  have _u4 := hy
  obtain ⟨z, hz⟩ : ∃ z, z = freshP (npk ps) y ea := ⟨_, rfl⟩
  rw [← hz]
  refine Qf1 Tryz.func58 ?_
  refine Qs<|Qp<|(Qh 0) fun r1=>(Qh 1) fun r2=>(QH 2) fun r3=>Qn<|Qs<|Qb<|Qs<|Qp<|(Qm)<|(Qc) ?_
  refine e_as (congrArg Value.bool (decide_eq_false (by decide))) ?_
  refine (Qm)<|(Qo)<|(QF)<|(Qa)<|Qn<|(Qcf)<|Qs<|Qp<|(Qm)<|(Qc) ?_
  refine e_as (congrArg Value.bool (decide_eq_false (by decide))) ?_
  refine (Qa)<|Qn<|(Qcf)<|Qs<|Qp<|(Qm)<|(Qa)<|Qn<|(Qcf)<|Qp<|(QD 0)<|(Qd 1) ?_
  refine e_call rfl (Un 95) (newest_fn hO b l vp v0 v1 vt fi tn dd y r ow vk us ea ps hk h1 hy he) rfl rfl ?_
  refine e_as (show _ = .agg (shC b l vp v0 v1 vt fi tn dd z ow (r.1, r.2.1, r.2.2.1, r.2.2.2.1, ea, true) vk us) by rw [hz]) ?_
  refine e_storeA (i := 0) (Uz 37) rfl rfl (arrv_size _ _) (cells_one ⟨fun _ => rfl, fun _ => rfl, fun _ => h1.1, fun _ => h1.2.1, fun _ => h1.2.2.1, fun _ => h1.2.2.2.1, fun _ => rfl, fun _ => rfl, fun _ => rfl, fun _ => rfl, fun _ => rfl, fun _ => rfl, fun _ => rfl, fun _ => rfl, fun _ => rfl, fun _ => rfl, fun _ => rfl, fun _ => rfl, fun _ => rfl, fun _ => rfl, fun _ => rfl, fun _ => h1.2.2.2.2, fun _ => rfl, trivial⟩) rfl cells_sz (.inl rfl) ?_
  refine Qn<|Qs<|Qp<|(QD 0) ?_
  refine e_storeA (i := 2) (Uz 37) rfl rfl (arrv_size _ _) (cells_one ⟨fun _ => rfl, fun _ => rfl, fun _ => h1.1, fun _ => h1.2.1, fun _ => h1.2.2.1, fun _ => h1.2.2.2.1, fun _ => rfl, fun _ => rfl, fun _ => rfl, fun _ => rfl, fun _ => rfl, fun _ => rfl, fun _ => rfl, fun _ => rfl, fun _ => rfl, fun _ => rfl, fun _ => rfl, fun _ => rfl, fun _ => rfl, fun _ => rfl, fun _ => rfl, fun _ => h1.2.2.2.2, fun _ => rfl, trivial⟩) rfl cells_sz (.inl rfl) ?_
  refine Qn<|Qr ?_
  exact ⟨_, rfl, .cell (i := 2) rfl rfl (Uu 37) rfl (Uz 37) (arrv_size _ _)⟩
set_option maxHeartbeats 4000000 in
theorem knowing_f2 (hO : DOR ∈ G) (b : List Nat) (l : Bool) (vp v0 v1 vt : Value) (fi : Bool) (tn : Int) (dd : Bool) (y : SY) (r : RS) (ow : Nat → Nat) (vk : Value) (us : Int) (ps : List (Nat → Nat)) (hk : Shows G 32 vk ps.length (psC ps)) (h1 : ones vp v0 v1 vt vk) (hy : okY y) (hr : okR r) (ho : B32 ow) (ea : Nat → Nat) (he : B32 ea) : Fn Tryz.prog G 58 #[.agg (shC b l vp v0 v1 vt fi tn dd y ow r vk us), ii 2, .bool false, .agg (arr .u8 32 ea)] (.agg (shC b l vp v0 v1 vt fi tn dd (hashP y (ky r.2.2.1)) ow r vk us)) := by
  have _u1 := ho
  have _u2 := hr
  have _u3 := he
  have _u4 := hy
  have _u5 := hk
  obtain ⟨y2, hy2⟩ : ∃ y2, y2 = hashP y (ky r.2.2.1) := ⟨_, rfl⟩
  rw [← hy2]
  refine Qf1 Tryz.func58 ?_
  refine Qs<|Qp<|(Qh 0) fun r1=>(Qh 1) fun r2=>(QH 2) fun r3=>Qn<|Qs<|Qb<|Qs<|Qp<|(Qm)<|(Qc) ?_
  refine e_as (congrArg Value.bool (decide_eq_true (by decide))) ?_
  refine (Qm)<|(Qy)<|(Qm)<|(QT)<|(Qa)<|Qn<|(Qcf)<|Qs<|Qp<|(Qm)<|(Qc) ?_
  refine e_as (congrArg Value.bool (decide_eq_true (by decide))) ?_
  refine (Qa)<|Qn<|(Qct)<|Qp<|(Qf 9) ?_
  refine e_ldK (i := 0) 9 5 (Uu 35 rfl) rfl (Uz 35 rfl) rfl rfl rfl rfl (by decide) rfl ⟨[], trivial⟩ ?_
  refine e_as (show _ = SVy y from rfl) ?_
  refine (Qf 172)<|(Qv 17 0) ?_
  refine e_call rfl (Un 93) (hashed_fn hO y hy r.2.2.1 hr.2.1) rfl rfl ?_
  refine e_as (congrArg SVy hy2.symm) ?_
  refine (Qf 9) ?_
  refine e_stK (i := 0) 9 5 (Uz 35 rfl) rfl rfl ⟨fun _ => rfl, fun _ => rfl, fun _ => rfl, fun _ => rfl, fun _ => rfl, trivial⟩ rfl rfl rfl rfl (by decide) (.inl rfl) ?_
  refine e_blk (c' := shC b l vp v0 v1 vt fi tn dd y2 ow r vk us) rfl ?_
  refine Qn<|Qs<|Qp<|(QD 0) ?_
  refine e_storeA (i := 2) (Uz 37) rfl rfl (arrv_size _ _) (cells_one ⟨fun _ => rfl, fun _ => rfl, fun _ => h1.1, fun _ => h1.2.1, fun _ => h1.2.2.1, fun _ => h1.2.2.2.1, fun _ => rfl, fun _ => rfl, fun _ => rfl, fun _ => rfl, fun _ => rfl, fun _ => rfl, fun _ => rfl, fun _ => rfl, fun _ => rfl, fun _ => rfl, fun _ => rfl, fun _ => rfl, fun _ => rfl, fun _ => rfl, fun _ => rfl, fun _ => h1.2.2.2.2, fun _ => rfl, trivial⟩) rfl cells_sz (.inl rfl) ?_
  refine Qn<|Qr ?_
  exact ⟨_, rfl, .cell (i := 2) rfl rfl (Uu 37) rfl (Uz 37) (arrv_size _ _)⟩
end Go.Proofs.YthljakcegoohlaaGreatDoor
namespace Go.Proofs.YthljakcegoohlaaGreatDoor
open Go Go.RowKit
theorem knowing_fn {G : Mem} (hO : DOR ∈ G) (b : List Nat) (l : Bool) (vp v0 v1 vt : Value) (fi : Bool) (tn : Int) (dd : Bool) (y : SY) (r : RS) (ow : Nat → Nat) (vk : Value) (us : Int) (ps : List (Nat → Nat)) (hk : Shows G 32 vk ps.length (psC ps)) (h1 : ones vp v0 v1 vt vk) (hy : okY y) (hr : okR r) (ho : B32 ow) (mine : Bool) (ea : Nat → Nat) (he : B32 ea) (t : Nat) (ht : t = 1 ∨ t = 2) : Fn Tryz.prog G 58 #[.agg (shC b l vp v0 v1 vt fi tn dd y ow r vk us), ii t, .bool mine, .agg (arr .u8 32 ea)] (.agg (shC b l vp v0 v1 vt fi tn dd (tokA mine ow ea (npk ps) t (y, r)).1 ow (tokA mine ow ea (npk ps) t (y, r)).2 vk us)) := by
  have e : ∀ (m : Bool) (u : Nat), (u = 1 ∨ u = 2) → True := fun _ _ _ => trivial
  rcases ht with rfl | rfl <;> cases mine
  · exact knowing_f1 hO b l vp v0 v1 vt fi tn dd y r ow vk us ps hk h1 hy hr ho ea he
  · exact knowing_t1 hO b l vp v0 v1 vt fi tn dd y r ow vk us ps hk h1 hy hr ho ea he
  · exact knowing_f2 hO b l vp v0 v1 vt fi tn dd y r ow vk us ps hk h1 hy hr ho ea he
  · exact knowing_t2 hO b l vp v0 v1 vt fi tn dd y r ow vk us ps hk h1 hy hr ho ea he
variable {G : Mem}
set_option maxRecDepth 20000 in
set_option maxHeartbeats 8000000 in
theorem ahead11_fn (hO : DOR ∈ G) (b : List Nat) (l : Bool) (vp v0 v1 vt : Value) (fi : Bool) (tn : Int) (dd : Bool) (y : SY) (r : RS) (ow : Nat → Nat) (vk : Value) (us : Int) (ps : List (Nat → Nat)) (hk : Shows G 32 vk ps.length (psC ps)) (h1 : ones vp v0 v1 vt vk) (hy : okY y) (hr : okR r) (ho : B32 ow) (ea : Nat → Nat) (he : B32 ea) (q0 q1 : List Nat) (hv0 : Shows G 1 v0 q0.length ((ci q0).map iv)) (hv1 : Shows G 1 v1 q1.length ((ci q1).map iv)) (ht0 : ∀ x ∈ q0, x = 1 ∨ x = 2) (ht1 : ∀ x ∈ q1, x = 1 ∨ x = 2) (hz9 : q0.length ≤ 1000 ∧ q1.length ≤ 1000) (hkn : ∀ a : Nat, a < 2 → ∀ x ∈ qq q0 q1 a, x = 2 → (fi == decide ((a : Int) = 0)) = false → r.2.2.2.1 = true) (z : SY × RS) (hz : aheadP fi ow ea (npk ps) q0 q1 (y, r) = z) : Fn Tryz.prog G 28 #[.agg (shC b l vp v0 v1 vt fi tn dd y ow r vk us), .agg (arr .u8 32 ea)] (.tuple #[.agg (shC b l vp v0 v1 vt fi tn dd z.1 ow z.2 vk us), ii 0]) := by
  have hvq := pre_shows hv0 hv1
  obtain ⟨s0, hs0⟩ : ∃ s, s = (y, r) := ⟨_, rfl⟩
  have hq9 : ∀ a : Nat, (qq q0 q1 a).length ≤ 1000 := fun a => by unfold qq; split; exact hz9.1; exact hz9.2
  have htq : ∀ a : Nat, ∀ x ∈ qq q0 q1 a, x = 1 ∨ x = 2 := fun a => by unfold qq; split; exact ht0; exact ht1
  have hstep : ∀ a : Nat, a < 2 → runA (fi == decide ((a : Int) = 0)) ow ea (npk ps) (qq q0 q1 a) (if a = 0 then s0 else if a = 1 then runA fi ow ea (npk ps) q0 s0 else runA (!fi) ow ea (npk ps) q1 (runA fi ow ea (npk ps) q0 s0)) = (if a + 1 = 0 then s0 else if a + 1 = 1 then runA fi ow ea (npk ps) q0 s0 else runA (!fi) ow ea (npk ps) q1 (runA fi ow ea (npk ps) q0 s0)) := fun a ha => by rcases (by omega : a = 0 ∨ a = 1) with rfl | rfl <;> cases fi <;> rfl
  refine Qf2 Tryz.func28 ?_
  refine Qs<|Qp<|(Qh 0) fun r1=>(Qh 1) fun r2=>(QH 2) fun r3=>(Qa)<|Qn<|Qs<|Qs<|Qp<|(Qf 0)<|(Qf 3) ?_
  refine e_ldP (i := 0) (Uu 26) rfl (Uz 26) rfl rfl (by decide) rfl ⟨[], trivial⟩ ?_
  refine e_as (show _ = Value.agg (arrv 2 (fun j => vq v0 v1 j)) from congrArg Value.agg (arrv_congr fun j hj => by have h9 : j = 0 ∨ j = 1 := (by omega); rcases h9 with rfl | rfl <;> rfl)) ?_
  refine (Qm)<|Qn<|Qb ?_
  refine QzK [(2, _), (3, _), (4, _), (13, _)] [(1, _), (2, _)] (fun kk E m => ∃ (a : Nat) (y1 : SY) (r1v : RS), kk = 2 - a ∧ E = [(14, ii a)] ∧ m = [(0, some ⟨r1, shC b l vp v0 v1 vt fi tn dd y1 ow r1v vk us, 37⟩)] ∧ (a ≤ 2) ∧ (((y1, r1v) : SY × RS) = (if a = 0 then s0 else if a = 1 then runA fi ow ea (npk ps) q0 s0 else runA (!fi) ow ea (npk ps) q1 (runA fi ow ea (npk ps) q0 s0))) ∧ (okY y1 ∧ okR r1v) ∧ (r1v.2.2.2.1 = r.2.2.2.1)) ⟨0, y, r, rfl, rfl, rfl, by omega, (by rw [hs0]; rfl), ⟨hy, hr⟩, rfl⟩ ⟨rfl, rfl, rfl, rfl, rfl, trivial⟩ ⟨rfl, rfl, rfl, trivial⟩ ?_
  rintro kk E m ⟨a, y1, r1v, rfl, rfl, rfl, hf0_0, hf0_1, hf0_2, hf0_3⟩
  simp only [catE, catL]
  refine Qs<|Qp<|(Ql)<|Qn<|Qs ?_
  refine e_cond rfl ?_ ?_
  · intro hc0
    have hc0 : a < 2 := by have := of_decide_eq_true hc0; omega
    refine Qk<|Qs<|Qb<|Qs<|Qp<|(Qm) ?_
    refine e_idxP (Uu 26) (Uu 25) rfl (Uz 25) rfl rfl (by omega) rfl ?_
    refine (Qa)<|(Qa)<|Qn<|Qs<|Qp<|(Qf 6)<|(QV 6 0)<|(Qm)<|(Qc) ?_
    refine e_eqB (Uu 4) rfl rfl rfl ?_
    refine (Qa)<|Qn<|Qs<|Qp<|(Qm)<|(QC (hvq a (by omega)))<|(Qm)<|Qn<|Qb ?_
    refine QzK [(2, _), (3, _), (4, _), (8, _), (13, _), (14, _), (23, _), (24, _)] [(1, _), (2, _)] (fun kk E m => ∃ (i : Nat) (y2 : SY) (r2v : RS), kk = (qq q0 q1 a).length - i ∧ E = [(25, ii i)] ∧ m = [(0, some ⟨r1, shC b l vp v0 v1 vt fi tn dd y2 ow r2v vk us, 37⟩)] ∧ (i ≤ (qq q0 q1 a).length) ∧ (((y2, r2v) : SY × RS) = runA (fi == decide ((a : Int) = 0)) ow ea (npk ps) ((qq q0 q1 a).take i) (y1, r1v)) ∧ (okY y2 ∧ okR r2v) ∧ (r2v.2.2.2.1 = r.2.2.2.1)) ⟨0, y1, r1v, rfl, rfl, rfl, by omega, (by rw [List.take_zero]; rfl), hf0_2, hf0_3⟩ ⟨rfl, rfl, rfl, rfl, rfl, rfl, rfl, rfl, rfl, trivial⟩ ⟨rfl, rfl, rfl, trivial⟩ ?_
    rintro kk E m ⟨i, y2, r2v, rfl, rfl, rfl, hf1_0, hf1_1, hf1_2, hf1_3⟩
    simp only [catE, catL]
    refine Qs<|Qp<|(Ql)<|Qn<|Qs ?_
    refine e_cond rfl ?_ ?_
    · intro hc1
      have hc1 : i < (qq q0 q1 a).length := by have := of_decide_eq_true hc1; omega
      refine Qk<|Qs<|Qb<|Qs<|Qp ?_
      refine e_atV (hvq a (by omega)) (Uu 25) (Uz 3) rfl rfl (by omega) rfl ?_
      refine (QS) ?_
      refine e_loadV (hvq a (by omega)) seenG (Uu 3) rfl rfl (ci_at (by omega)) rfl ?_
      refine e_gen_i fun x hx => ?_
      refine (Qa)<|Qn ?_
      have hqa9 := hq9 a
      have hx9 := htq a ((qq q0 q1 a).getD i 0) (by rw [List.getD_eq_getElem?_getD, List.getElem?_eq_getElem (by omega)]; exact List.getElem_mem _)
      rw [← hx] at hx9
      obtain ⟨sn, hsn⟩ : ∃ z, z = tokA (fi == decide ((a : Int) = 0)) ow ea (npk ps) x (y2, r2v) := ⟨_, rfl⟩
      refine Qs<|Qs<|Qp ?_
      refine e_join [(2, _), (3, _), (4, _), (8, _), (10, _), (13, _), (14, _), (23, _), (24, _), (25, _), (26, _), (27, _), (28, _)] [(39, .bool (decide ((x : Int) = 2) && (!(fi == decide ((a : Int) = 0)) && !r2v.2.2.2.1)))] [(0, some _), (1, some _), (2, some _)] ⟨rfl, rfl, rfl, rfl, rfl, rfl, rfl, rfl, rfl, rfl, rfl, rfl, rfl, trivial⟩ ⟨rfl, rfl, rfl, trivial⟩ ?_ ?_
      · skip
        refine (Qm)<|(Qc)<|(Qm) ?_
        refine e_case (b := decide ((x : Int) = 2)) (fun hb0 => ?_) (fun hb0 => ?_)
        · skip
          refine (Qy)<|(Qm)<|(Qy)<|(Q0)<|(QT)<|(Qm) ?_
          refine e_case (b := (!(fi == decide ((a : Int) = 0)))) (fun hb1 => ?_) (fun hb1 => ?_)
          · skip
            refine (Qy)<|(Qf 204)<|(Qy)<|(QV 18 0)<|(Qy)<|(Q0)<|(QT)<|Qn ?_
            exact ⟨⟨rfl, rfl, rfl, rfl, rfl, rfl, rfl, rfl, rfl, rfl, rfl, rfl, rfl, trivial⟩, ⟨bool_fin (by rw [hb0, hb1] <;> rfl), trivial⟩, ⟨rfl, rfl, rfl, trivial⟩⟩
          · skip
            refine (Qo)<|(Qo)<|(Qo)<|(QF)<|Qn ?_
            exact ⟨⟨rfl, rfl, rfl, rfl, rfl, rfl, rfl, rfl, rfl, rfl, rfl, rfl, rfl, trivial⟩, ⟨bool_fin (by rw [hb0, hb1] <;> rfl), trivial⟩, ⟨rfl, rfl, rfl, trivial⟩⟩
        · skip
          refine (Qo)<|(Qo)<|(QF)<|(Qm)<|(Qo)<|(Qo)<|(Qo)<|(QF)<|Qn ?_
          exact ⟨⟨rfl, rfl, rfl, rfl, rfl, rfl, rfl, rfl, rfl, rfl, rfl, rfl, rfl, trivial⟩, ⟨bool_fin (by rw [hb0] <;> rfl), trivial⟩, ⟨rfl, rfl, rfl, trivial⟩⟩
      · simp only [catE]
        refine e_cond rfl ?_ ?_
        · intro hc2
          have hc9 := and3_t hc2
          have hb9 : r.2.2.2.1 = true := hkn a (by omega) x (by rw [hx, List.getD_eq_getElem?_getD, List.getElem?_eq_getElem (by omega)]; exact List.getElem_mem _) (by omega) hc9.2.1
          rw [hf1_3, hb9] at hc9
          exact absurd hc9.2.2 (by decide)
        · intro hc2
          refine Qk<|Qp<|(QD 0)<|(Qm)<|(Qm)<|(Qd 1) ?_
          refine e_call rfl (Un 58) (knowing_fn hO b l vp v0 v1 vt fi tn dd y2 r2v ow vk us ps hk h1 hf1_2.1 hf1_2.2 ho _ ea he x hx9) rfl rfl ?_
          refine e_as (show _ = .agg (shC b l vp v0 v1 vt fi tn dd sn.1 ow sn.2 vk us) by rw [hsn]) ?_
          refine e_storeA (i := 0) (Uz 37) rfl rfl (arrv_size _ _) (cells_one ⟨fun _ => rfl, fun _ => rfl, fun _ => h1.1, fun _ => h1.2.1, fun _ => h1.2.2.1, fun _ => h1.2.2.2.1, fun _ => rfl, fun _ => rfl, fun _ => rfl, fun _ => rfl, fun _ => rfl, fun _ => rfl, fun _ => rfl, fun _ => rfl, fun _ => rfl, fun _ => rfl, fun _ => rfl, fun _ => rfl, fun _ => rfl, fun _ => rfl, fun _ => rfl, fun _ => h1.2.2.2.2, fun _ => rfl, trivial⟩) rfl cells_sz (.inl rfl) ?_
          refine Qn<|Qp<|(Q2 1)<|(Qm)<|Qn ?_
          refine QzL ⟨i + 1, _, _, rfl, rfl, rfl, by omega, (by rw [runA_next (by omega), ← hf1_1, ← hx, ← hsn]), (by rw [hsn]; exact okA hf1_2 he), (by rw [hsn]; exact knA9.trans hf1_3)⟩ ⟨rfl, rfl, rfl, rfl, rfl, rfl, rfl, rfl, rfl, trivial⟩ ⟨rfl, rfl, rfl, trivial⟩ ?_
          omega
    · intro hc1
      have hc1 := of_decide_eq_false hc1
      have hz1 : i = (qq q0 q1 a).length := by omega
      refine Qe<|Qp<|(Q2 1)<|(Qm)<|Qn ?_
      refine QzL ⟨a + 1, _, _, rfl, rfl, rfl, by omega, (hf1_1.trans (by rw [hz1, List.take_length, hf0_1]; exact hstep a (by omega))), hf1_2, hf1_3⟩ ⟨rfl, rfl, rfl, rfl, rfl, trivial⟩ ⟨rfl, rfl, rfl, trivial⟩ ?_
      omega
  · intro hc0
    have hc0 := of_decide_eq_false hc0
    have hz0 : a = 2 := by omega
    refine Qe<|Qs<|Qp<|(QD 0) ?_
    refine e_storeA (i := 2) (Uz 37) rfl rfl (arrv_size _ _) (cells_one ⟨fun _ => rfl, fun _ => rfl, fun _ => h1.1, fun _ => h1.2.1, fun _ => h1.2.2.1, fun _ => h1.2.2.2.1, fun _ => rfl, fun _ => rfl, fun _ => rfl, fun _ => rfl, fun _ => rfl, fun _ => rfl, fun _ => rfl, fun _ => rfl, fun _ => rfl, fun _ => rfl, fun _ => rfl, fun _ => rfl, fun _ => rfl, fun _ => rfl, fun _ => rfl, fun _ => h1.2.2.2.2, fun _ => rfl, trivial⟩) rfl cells_sz (.inl rfl) ?_
    refine (Qa)<|Qn<|Qr ?_
    obtain rfl : z = (y1, r1v) := by rw [← hz, hf0_1, hz0, hs0]; rfl
    exact ⟨_, _, rfl, .cell (i := 2) rfl rfl (Uu 37) rfl (Uz 37) (arrv_size _ _), .tmp rfl⟩
end Go.Proofs.YthljakcegoohlaaGreatDoor
