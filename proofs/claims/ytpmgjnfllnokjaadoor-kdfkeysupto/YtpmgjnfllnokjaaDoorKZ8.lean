import Derived.Test.YtpmgjnfllnokjaaDoorKZ7
import Derived.Test.YtpmgjnfllnokjaaDoorKZ2
import Derived.ProofKit
import Derived.OpenShut
import Derived.LaidMore
import Derived.Lay
import Derived.MakeChecks
import Derived.Test.YtpmgjnfllnokjaaDoorRows
import Derived.Test.YtpmgjnfllnokjaaDoorKZ6
import Derived.Test.YtpmgjnfllnokjaaDoorKZ1
import Derived.Test.YtpmgjnfllnokjaaDoorKZ3
import Derived.Carry
import Derived.SizedLaws

/-
  Walks, written by a program of ours off the loaded functions.
-/
namespace Go.Proofs.YtpmgjnfllnokjaaDoor
open Go Go.RowKit


theorem dmac7_at {G X : Mem} (vk vs : Value) (k s : List Nat) (hvk : Shows ((DOR :: G) ++ X) 1 vk k.length (k.map by8)) (hvs : Shows ((DOR :: G) ++ X) 1 vs s.length (s.map by8)) (hk : ∀ b ∈ k, b < 256) (hb : ∀ b ∈ s, b < 256) (hkm : k.length ≤ 1073741824) (hs : s.length ≤ 1073741760) : Fn Tryd.prog ((DOR :: G) ++ X) 5 #[vk, vs] (.agg (arr .u8 32 (mac k s))) :=
  dmac7_fn (G := G ++ X) vk vs k s hvk hvs hk hb hkm hs
theorem shows_b1 (r x : Nat) (t : TypeId) : Shows [⟨r, #[by8 x], t⟩] 1 (.slice (some ⟨r, 0, none⟩) 1 1) [x].length ([x].map by8) := shows_new (r := r) (len := 1) (z := 1) #[by8 x] t rfl
theorem fill_two (a b : Nat → Nat) : Instr.fill (fun i => some (i * 32, 32)) (arr .u8 64 fun _ => 0) [(0, .agg (arr .u8 32 a)), (1, .agg (arr .u8 32 b))] = some (arr .u8 64 (two2 a b)) := by kernel_rfl
theorem thr3_at0 (a b c : Nat → Nat) : ∀ j, j < 32 → thr3 a b c (0 + j) = a j := fun j hj => by rw [Nat.zero_add, thr3, if_pos hj]
theorem thr3_at1 (a b c : Nat → Nat) : ∀ j, j < 32 → thr3 a b c (32 + j) = b j := fun j hj => by rw [thr3, if_neg (by omega), if_pos (by omega), Nat.add_sub_cancel_left]

theorem ent5 : enters Tryd.prog 5 = true := by kernel_rfl

variable {G : Mem}

set_option maxHeartbeats 4000000 in
theorem dthree_fn (c : Nat → Nat) (v : Value) (s : List Nat) (hc : ∀ j, j < 32 → c j < 256) (hv : Shows (DOR :: G) 1 v s.length (s.map by8)) (hb : ∀ b ∈ s, b < 256) (hs : s.length ≤ 1073741760) : Fn Tryd.prog (DOR :: G) 7 #[.agg (arr .u8 32 c), v] (.agg (arr .u8 96 (thr3 (kA c s) (kB c s) (kC c s)))) := by
  obtain ⟨f, hf⟩ : ∃ f, f = mac ((List.range 32).map c) s := ⟨_, rfl⟩
  have hT : kT c s = ((List.range 32).map f) := by rw [hf]; rfl
  have hfb : ∀ b ∈ ((List.range 32).map f), b < 256 := by rw [← hT]; exact kT_lt c s
  obtain ⟨fA, hA⟩ : ∃ x, x = kA c s := ⟨_, rfl⟩
  obtain ⟨fB, hB⟩ : ∃ x, x = kB c s := ⟨_, rfl⟩
  obtain ⟨fC, hC⟩ : ∃ x, x = kC c s := ⟨_, rfl⟩
  have eA : mac ((List.range 32).map f) [1] = fA := by rw [hA, kA, hT]
  have eB : mac ((List.range 32).map f) (((List.range 32).map fA) ++ [2]) = fB := by rw [hB, kB, hT, hA]
  have eC : mac ((List.range 32).map f) (((List.range 32).map fB) ++ [3]) = fC := by rw [hC, kC, hT, hB]
  have hfAb : ∀ b ∈ ((List.range 32).map fA), b < 256 := by rw [hA]; exact range_lt fun _ _ => mac_lt _ _ _
  have hfBb : ∀ b ∈ ((List.range 32).map fB), b < 256 := by rw [hB]; exact range_lt fun _ _ => mac_lt _ _ _
  rw [← hA, ← hB, ← hC]
  refine fn1 (n := 31) Tryd.func7 rfl rfl (by simp) (argE [.agg (arr .u8 32 c), v] 0) (argE_ok _) ?_
  refine e_seq ?_
  refine e_plain ?_
  refine e_box 0 rfl rfl fun r1 => ?_
  refine e_alloc 1 zer28 rfl fun r2 => ?_
  refine e_nil ?_
  refine e_seq ?_
  refine e_plain ?_
  refine e_sliceA 0 32 und24 siz5 rfl rfl rfl rfl rfl (by omega) (by omega) (by omega) rfl ?_
  refine e_move rfl rfl ?_
  refine e_callS rfl rfl ent5 (seen_app seenG (seen1 0 rfl ⟨[], trivial⟩)) (dmac7_at (G := G) (X := [(⟨r1, arr .u8 32 c, 24⟩ : Blk)]) (.slice (some ⟨r1, 0, none⟩) 32 32) v ((List.range 32).map c) s (Shows.mono (shows32 r1 c 24) (fun x h => List.mem_append_right _ h)) (Shows.mono hv (fun x h => List.mem_append_left _ h)) (range_lt hc) hb (by simp) hs) rfl rfl ?_
  refine e_as (congrArg (fun f => Value.agg (arr .u8 32 f)) hf.symm) ?_
  refine e_alloc 2 zer24 rfl fun r3 => ?_
  refine e_storeA (i := 2) siz24 rfl rfl (arr_size _ _ _) arr_one rfl (arr_sz _ _ _ _ _) (.inl rfl) ?_
  refine e_nil ?_
  refine e_seq ?_
  refine e_plain ?_
  refine e_sliceA 0 32 und24 siz5 rfl rfl rfl rfl rfl (by omega) (by omega) (by omega) rfl ?_
  refine e_buildSl 3 #[by8 1] und22 siz5 zer5 (by decide) (by decide) rfl (by kernel_rfl) rfl fun r4 => ?_
  refine e_callS rfl rfl ent5 (seen_app seenG (seen_app (seen1 2 rfl ⟨[], trivial⟩) (seen1 3 rfl ⟨[], trivial⟩))) (dmac7_at (G := G) (X := ([(⟨r3, arr .u8 32 f, 24⟩ : Blk)] ++ [(⟨r4, #[by8 1], 5⟩ : Blk)])) (.slice (some ⟨r3, 0, none⟩) 32 32) (.slice (some ⟨r4, 0, none⟩) 1 1) ((List.range 32).map f) [1] (Shows.mono (shows32 r3 f 24) (fun x h => List.mem_append_right _ (List.mem_append_left _ h))) (Shows.mono (shows_b1 r4 1 5) (fun x h => List.mem_append_right _ (List.mem_append_right _ h))) hfb (by decide) (by simp) (by decide)) rfl rfl ?_
  refine e_as (congrArg (fun f => Value.agg (arr .u8 32 f)) eA) ?_
  refine e_alloc 4 zer24 rfl fun r5 => ?_
  refine e_storeA (i := 4) siz24 rfl rfl (arr_size _ _ _) arr_one rfl (arr_sz _ _ _ _ _) (.inl rfl) ?_
  refine e_nil ?_
  refine e_seq ?_
  refine e_drawR ⟨[], 4, []⟩ mixed (by kernel_rfl) ?_
  refine e_sliceA 0 32 und24 siz5 rfl rfl rfl rfl rfl (by omega) (by omega) (by omega) rfl ?_
  refine e_sliceA 0 32 und24 siz5 rfl rfl rfl rfl rfl (by omega) (by omega) (by omega) rfl ?_
  refine e_buildSl 5 #[by8 2] und22 siz5 zer5 (by decide) (by decide) rfl (by kernel_rfl) rfl fun r6 => ?_
  refine e_buildSl 6 [(.slice (some ⟨r5, 0, none⟩) 32 32), (.slice (some ⟨r6, 0, none⟩) 1 1)].toArray und50 siz22 zer22 (by decide) (by decide) rfl (fill_ones [(.slice (some ⟨r5, 0, none⟩) 32 32), (.slice (some ⟨r6, 0, none⟩) 1 1)] 0 _ (by intro v hv; simp only [List.mem_cons, List.not_mem_nil, or_false] at hv; rcases hv with rfl | rfl; exact rfl; exact rfl) (by simp)) rfl fun r7 => ?_
  refine e_callN 7 (fun v => v) rfl rfl ent12 (seen_app seenG (seen_app (seen1 4 rfl ⟨[], trivial⟩) (seen_app (seen1 5 rfl ⟨[], trivial⟩) (seen1 6 rfl ⟨[], trivial⟩)))) (djoined2 (G := ((DOR :: G) ++ ([(⟨r5, arr .u8 32 fA, 24⟩ : Blk)] ++ ([(⟨r6, #[by8 2], 5⟩ : Blk)] ++ [(⟨r7, [(.slice (some ⟨r5, 0, none⟩) 32 32), (.slice (some ⟨r6, 0, none⟩) 1 1)].toArray, 22⟩ : Blk)])))) r7 (.slice (some ⟨r5, 0, none⟩) 32 32) (.slice (some ⟨r6, 0, none⟩) 1 1) ((List.range 32).map fA) [2] (Shows.mono (shows32 r5 fA 24) (fun x h => (List.mem_append_right _ (List.mem_append_left _ h)))) (Shows.mono (shows_b1 r6 2 5) (fun x h => (List.mem_append_right _ (List.mem_append_right _ (List.mem_append_left _ h))))) (List.mem_append_right _ (List.mem_append_right _ (List.mem_append_right _ (List.mem_singleton.2 rfl)))) (by simp)) (by simp [maxLen]) (by rw [List.length_map, Nat.mul_one]) rfl rfl fun v1_1 oz1_1 ho1_1 => ?_
  refine e_callS rfl rfl ent5 (seen_app seenG (seen_app (seen1 2 rfl ⟨[], trivial⟩) (seenM 7 rfl ⟨[], trivial⟩))) (dmac7_at (G := G) (X := ([(⟨r3, arr .u8 32 f, 24⟩ : Blk)] ++ oz1_1.toList)) (.slice (some ⟨r3, 0, none⟩) 32 32) v1_1 ((List.range 32).map f) (((List.range 32).map fA) ++ [2]) (Shows.mono (shows32 r3 f 24) (fun x h => List.mem_append_right _ (List.mem_append_left _ h))) (Shows.mono (own_bytes ho1_1) (fun x h => List.mem_append_right _ (List.mem_append_right _ h))) hfb (app_lt hfAb (by decide)) (by simp) (by simp)) rfl rfl ?_
  refine e_as (congrArg (fun f => Value.agg (arr .u8 32 f)) eB) ?_
  refine e_alloc 8 zer24 rfl fun r9 => ?_
  refine e_storeA (i := 8) siz24 rfl rfl (arr_size _ _ _) arr_one rfl (arr_sz _ _ _ _ _) (.inl rfl) ?_
  refine e_nil ?_
  refine e_seq ?_
  refine e_drawR ⟨[], 4, []⟩ mixed (by kernel_rfl) ?_
  refine e_sliceA 0 32 und24 siz5 rfl rfl rfl rfl rfl (by omega) (by omega) (by omega) rfl ?_
  refine e_sliceA 0 32 und24 siz5 rfl rfl rfl rfl rfl (by omega) (by omega) (by omega) rfl ?_
  refine e_buildSl 9 #[by8 3] und22 siz5 zer5 (by decide) (by decide) rfl (by kernel_rfl) rfl fun r10 => ?_
  refine e_buildSl 10 [(.slice (some ⟨r9, 0, none⟩) 32 32), (.slice (some ⟨r10, 0, none⟩) 1 1)].toArray und50 siz22 zer22 (by decide) (by decide) rfl (fill_ones [(.slice (some ⟨r9, 0, none⟩) 32 32), (.slice (some ⟨r10, 0, none⟩) 1 1)] 0 _ (by intro v hv; simp only [List.mem_cons, List.not_mem_nil, or_false] at hv; rcases hv with rfl | rfl; exact rfl; exact rfl) (by simp)) rfl fun r11 => ?_
  refine e_callN 11 (fun v => v) rfl rfl ent12 (seen_app seenG (seen_app (seen1 8 rfl ⟨[], trivial⟩) (seen_app (seen1 9 rfl ⟨[], trivial⟩) (seen1 10 rfl ⟨[], trivial⟩)))) (djoined2 (G := ((DOR :: G) ++ ([(⟨r9, arr .u8 32 fB, 24⟩ : Blk)] ++ ([(⟨r10, #[by8 3], 5⟩ : Blk)] ++ [(⟨r11, [(.slice (some ⟨r9, 0, none⟩) 32 32), (.slice (some ⟨r10, 0, none⟩) 1 1)].toArray, 22⟩ : Blk)])))) r11 (.slice (some ⟨r9, 0, none⟩) 32 32) (.slice (some ⟨r10, 0, none⟩) 1 1) ((List.range 32).map fB) [3] (Shows.mono (shows32 r9 fB 24) (fun x h => (List.mem_append_right _ (List.mem_append_left _ h)))) (Shows.mono (shows_b1 r10 3 5) (fun x h => (List.mem_append_right _ (List.mem_append_right _ (List.mem_append_left _ h))))) (List.mem_append_right _ (List.mem_append_right _ (List.mem_append_right _ (List.mem_singleton.2 rfl)))) (by simp)) (by simp [maxLen]) (by rw [List.length_map, Nat.mul_one]) rfl rfl fun v1_2 oz1_2 ho1_2 => ?_
  refine e_callS rfl rfl ent5 (seen_app seenG (seen_app (seen1 2 rfl ⟨[], trivial⟩) (seenM 11 rfl ⟨[], trivial⟩))) (dmac7_at (G := G) (X := ([(⟨r3, arr .u8 32 f, 24⟩ : Blk)] ++ oz1_2.toList)) (.slice (some ⟨r3, 0, none⟩) 32 32) v1_2 ((List.range 32).map f) (((List.range 32).map fB) ++ [3]) (Shows.mono (shows32 r3 f 24) (fun x h => List.mem_append_right _ (List.mem_append_left _ h))) (Shows.mono (own_bytes ho1_2) (fun x h => List.mem_append_right _ (List.mem_append_right _ h))) hfb (app_lt hfBb (by decide)) (by simp) (by simp)) rfl rfl ?_
  refine e_as (congrArg (fun f => Value.agg (arr .u8 32 f)) eC) ?_
  refine e_alloc 12 zer24 rfl fun r13 => ?_
  refine e_storeA (i := 12) siz24 rfl rfl (arr_size _ _ _) arr_one rfl (arr_sz _ _ _ _ _) (.inl rfl) ?_
  refine e_nil ?_
  refine e_seq ?_
  refine e_plain ?_
  refine e_loadA (i := 4) und24 rfl siz24 rfl rfl (arr_size _ _ _) rfl ⟨[], trivial⟩ ?_
  refine e_loadA (i := 8) und24 rfl siz24 rfl rfl (arr_size _ _ _) rfl ⟨[], trivial⟩ ?_
  refine e_loadA (i := 12) und24 rfl siz24 rfl rfl (arr_size _ _ _) rfl ⟨[], trivial⟩ ?_
  refine e_buildZ (arr .u8 96 (thr3 fA fB fC)) zer28 und28 siz24 rfl (fill_three fA fB fC) rfl ?_
  refine e_storeA (i := 1) siz28 rfl rfl (arr_size _ _ _) arr_one rfl (arr_sz _ _ _ _ _) (.inl rfl) ?_
  refine e_nil ?_
  refine e_ret ?_
  exact ⟨_, rfl, .cell (i := 1) rfl rfl und28 rfl siz28 (arr_size _ _ _)⟩

set_option maxHeartbeats 4000000 in
theorem dtwo_fn (c : Nat → Nat) (v : Value) (s : List Nat) (hc : ∀ j, j < 32 → c j < 256) (hv : Shows (DOR :: G) 1 v s.length (s.map by8)) (hb : ∀ b ∈ s, b < 256) (hs : s.length ≤ 1073741760) : Fn Tryd.prog (DOR :: G) 8 #[.agg (arr .u8 32 c), v] (.agg (arr .u8 64 (two2 (kA c s) (kB c s)))) := by
  have h3 := dthree_fn (G := G) c v s hc hv hb hs
  obtain ⟨fA, hA⟩ : ∃ x, x = kA c s := ⟨_, rfl⟩
  obtain ⟨fB, hB⟩ : ∃ x, x = kB c s := ⟨_, rfl⟩
  obtain ⟨fC, hC⟩ : ∃ x, x = kC c s := ⟨_, rfl⟩
  rw [← hA, ← hB, ← hC] at h3
  rw [← hA, ← hB]
  refine fn1 (n := 14) Tryd.func8 rfl rfl (by simp) (argE [.agg (arr .u8 32 c), v] 0) (argE_ok _) ?_
  refine e_seq ?_
  refine e_plain ?_
  refine e_box 0 rfl rfl fun r1 => ?_
  refine e_alloc 1 zer30 rfl fun r2 => ?_
  refine e_nil ?_
  refine e_seq ?_
  refine e_plain ?_
  refine e_loadA (i := 0) und24 rfl siz24 rfl rfl (arr_size _ _ _) rfl ⟨[], trivial⟩ ?_
  refine e_move rfl rfl ?_
  refine e_call rfl ent7 h3 rfl rfl ?_
  refine e_alloc 2 zer28 rfl fun r3 => ?_
  refine e_storeA (i := 2) siz28 rfl rfl (arr_size _ _ _) arr_one rfl (arr_sz _ _ _ _ _) (.inl rfl) ?_
  refine e_nil ?_
  refine e_seq ?_
  refine e_plain ?_
  refine e_at (0) (j := 0) und28 siz24 rfl rfl (by omega) (by omega) rfl ?_
  refine e_loadS (i := 2) und24 rfl siz24 rfl rfl (by omega) rfl ⟨[], trivial⟩ ?_
  refine e_as (congrArg Value.agg (arr_congr (thr3_at0 fA fB fC))) ?_
  refine e_at (32) (j := 1) und28 siz24 rfl rfl (by omega) (by omega) rfl ?_
  refine e_loadS (i := 2) und24 rfl siz24 rfl rfl (by omega) rfl ⟨[], trivial⟩ ?_
  refine e_as (congrArg Value.agg (arr_congr (thr3_at1 fA fB fC))) ?_
  refine e_buildZ (arr .u8 64 (two2 fA fB)) zer30 und30 siz24 rfl (fill_two fA fB) rfl ?_
  refine e_storeA (i := 1) siz30 rfl rfl (arr_size _ _ _) arr_one rfl (arr_sz _ _ _ _ _) (.inl rfl) ?_
  refine e_nil ?_
  refine e_ret ?_
  exact ⟨_, rfl, .cell (i := 1) rfl rfl und30 rfl siz30 (arr_size _ _ _)⟩

end Go.Proofs.YtpmgjnfllnokjaaDoor

/-
  Walks, written by a program of ours off the loaded functions.
-/
namespace Go.Proofs.YtpmgjnfllnokjaaDoor
open Go Go.RowKit



variable {G : Mem}

set_option maxHeartbeats 2000000 in
theorem kdfMacs_fn (vk vs : Value) (k s : List Nat) (hvk : Shows (IVB :: G) 1 vk k.length (k.map by8)) (hvs : Shows (IVB :: G) 1 vs s.length (s.map by8)) (hk : ∀ b ∈ k, b < 256) (hb : ∀ b ∈ s, b < 256) (hkm : k.length ≤ 140737488351232) (hs : s.length ≤ 140737488351232) (hD : Fn Tryd.prog (IVB :: G) 5 #[vk, vs] (.agg (arr .u8 32 (mac k s)))) : Fn Tryd.prog (IVB :: G) 3 #[vk, vs] (.bool true) := by
  refine fn1 (n := 18) Tryd.func3 rfl rfl (by simp) (argE [vk, vs] 0) (argE_ok _) ?_
  refine e_seq ?_
  refine e_plain ?_
  refine e_assign rfl rfl ?_
  refine e_nil ?_
  refine e_seq ?_
  refine e_plain ?_
  refine e_move rfl rfl ?_
  refine e_move rfl rfl ?_
  refine e_call rfl ent5 hD rfl rfl ?_
  refine e_alloc 0 zer24 rfl fun r1 => ?_
  refine e_storeA (i := 0) siz24 rfl rfl (arr_size _ _ _) arr_one rfl (arr_sz _ _ _ _ _) (.inl rfl) ?_
  refine e_nil ?_
  refine e_seq ?_
  refine e_plain ?_
  refine e_move rfl rfl ?_
  refine e_conv_strV (l := k) hvk seenG und22 und5 und9 rfl rfl rfl ?_
  refine e_move rfl rfl ?_
  refine e_conv_strV (l := s) hvs seenG und22 und5 und9 rfl rfl rfl ?_
  refine e_call rfl ent6 (mac_fn k s hk hb (by omega) (by omega)) rfl rfl ?_
  refine e_alloc 1 zer24 rfl fun r2 => ?_
  refine e_storeA (i := 1) siz24 rfl rfl (arr_size _ _ _) arr_one rfl (arr_sz _ _ _ _ _) (.inl rfl) ?_
  refine e_nil ?_
  refine e_seq ?_
  refine e_plain ?_
  refine e_loadA (i := 0) und24 rfl siz24 rfl rfl (arr_size _ _ _) rfl ⟨[], trivial⟩ ?_
  refine e_loadA (i := 1) und24 rfl siz24 rfl rfl (arr_size _ _ _) rfl ⟨[], trivial⟩ ?_
  refine e_eqA und24 und5 siz5 eqg24 rfl rfl rfl ?_
  refine e_as (congrArg Value.bool (allEq_iff.2 (fun _ _ => rfl))) ?_
  refine e_assign rfl rfl ?_
  refine e_nil ?_
  refine e_ret ?_
  exact ⟨_, rfl, .tmp rfl⟩

end Go.Proofs.YtpmgjnfllnokjaaDoor

/-
  What listed package variables give a walk: tables of numbers, each in its block.
-/
namespace Go.Proofs.YtpmgjnfllnokjaaDoor
open Go.ChangeShapes Go.WideShapes Go.ChangeAt Go.RowKit

section
variable {P : Program} {W : World}
/-- The cells of a type read as a datum. -/
def RdT (P : Program) (W : World) (t : TypeId) (cs : List Value) (d : DataW Unit) : Prop := ∃ fuel p, DataW.trod (fun _ => ()) P W 0 (fun _ => true) false fuel t cs = some (d, p)
/-- A listed variable. -/
def VarT (P : Program) (W : World) (n : String) (d : DataW Unit) : Prop := ∃ g t cs, P.globalNamed n = some g ∧ (P.globals[g]?).map (·.type) = some t ∧ W.var? P n = some cs ∧ RdT P W t cs.toList d
theorem laid_vars : ∀ {l : List (String × DataW Unit)} {ps : List MemPlace}, DataW.LaidVars P W l ps → ∀ x ∈ l, VarT P W x.1 x.2
  | [], _, _, x, hx => absurd hx List.not_mem_nil
  | (n, d) :: r, ps, h, x, hx => by
    obtain ⟨g, t, cs, fuel, p, q, h1, h2, h3, h4, h5, _⟩ := h
    rcases List.mem_cons.1 hx with rfl | hx
    · exact ⟨g, t, cs, h1, h2, h3, fuel, p, h4⟩
    · exact laid_vars h5 x hx
theorem laid_metH {l : List (String × DataW Unit)} (hp : (l.all fun x => x.2.handleName?.isNone) = true) (h : laidMetH P l W) : ∀ x ∈ l, VarT P W x.1 x.2 := by
  rw [MakeChecks.laidMetH_plain _ _ _ hp] at h
  obtain ⟨ps, h1, _⟩ := h
  exact laid_vars h1
theorem cut_one {cs : List Value} {r : Nat} {v : Value} (h : (cs.drop r).take 1 = [v]) : cs[r]? = some v := by
  have h0 : ((cs.drop r).take 1)[0]? = some v := by rw [h]; rfl
  simpa using h0
/-- A row of numbers. -/
theorem rd_ints {k : IntKind} {N : Nat} {e T : TypeId} {zs : List Int} {cs : List Value} (hT : P.underlying T = some (.array N e)) (he : P.underlying e = some (.int k)) (hc : P.cellsOf e = 1) (h : RdT P W T cs (.agg (zs.map fun n => .lit (.int k n)))) : ∀ r, r < N → cs[r]? = some (.int k (zs.getD r 0)) := by
  obtain ⟨fuel, p, hd⟩ := h
  obtain ⟨xs, m, _, ex, _, hl, hel⟩ := DataW.trod_array hT hd
  have e3 : (xs.map (·.1)) = zs.map fun n => .lit (.int k n) := (DataW.agg.inj (Prod.mk.inj ex).1).symm
  have hlen : zs.length = N := by
    have := congrArg List.length e3
    simpa [hl] using this.symm
  intro r hr
  have hE := hel r hr
  rw [hc, Nat.mul_one, List.getElem?_eq_getElem (by omega)] at hE
  obtain ⟨z, e1, e2, _⟩ := DataW.trod_int he hE
  have e4 : (xs.map (·.1))[r]? = (zs.map fun n => (DataW.lit (.int k n) : DataW Unit))[r]? := by rw [e3]
  rw [List.getElem?_map, List.getElem?_map, List.getElem?_eq_getElem (by omega : r < xs.length), List.getElem?_eq_getElem (by omega : r < zs.length), e2] at e4
  have hz : z = zs.getD r 0 := by
    simp only [Option.map_some, Option.some.injEq, DataW.lit.injEq, Lit.int.injEq, true_and] at e4
    rw [e4, List.getD, List.getElem?_eq_getElem (by omega : r < zs.length)]; rfl
  rw [← hz]
  exact cut_one e1
/-- Rows of numbers. -/
theorem rd_rows {k : IntKind} {M N : Nat} {e E T : TypeId} {rs : List (List Int)} {cs : List Value} (hT : P.underlying T = some (.array M E)) (hE : P.underlying E = some (.array N e)) (he : P.underlying e = some (.int k)) (hc : P.cellsOf e = 1) (hcE : P.cellsOf E = N)
    (h : RdT P W T cs (.agg (rs.map fun row => .agg (row.map fun n => .lit (.int k n))))) : ∀ r, r < M * N → cs[r]? = some (.int k ((rs.getD (r / N) []).getD (r % N) 0)) := by
  obtain ⟨fuel, p, hd⟩ := h
  obtain ⟨xs, m, _, ex, _, hl, hel⟩ := DataW.trod_array hT hd
  have e3 : (xs.map (·.1)) = rs.map fun row => .agg (row.map fun n => .lit (.int k n)) := (DataW.agg.inj (Prod.mk.inj ex).1).symm
  have hlen : rs.length = M := by
    have := congrArg List.length e3
    simpa [hl] using this.symm
  intro r hr
  have hN : 0 < N := Nat.pos_of_ne_zero fun h0 => by subst h0; simp at hr
  have hi : r / N < M := Nat.div_lt_of_lt_mul (by rw [Nat.mul_comm]; exact hr)
  have hj : r % N < N := Nat.mod_lt _ hN
  have hR := hel (r / N) hi
  rw [hcE, List.getElem?_eq_getElem (by omega)] at hR
  have e4 : (xs.map (·.1))[r / N]? = (rs.map fun row => (DataW.agg (row.map fun n => .lit (.int k n)) : DataW Unit))[r / N]? := by rw [e3]
  rw [List.getElem?_map, List.getElem?_map, List.getElem?_eq_getElem (by omega : r / N < xs.length), List.getElem?_eq_getElem (by omega : r / N < rs.length)] at e4
  simp only [Option.map_some, Option.some.injEq] at e4
  have hg : rs.getD (r / N) [] = rs[r / N] := by rw [List.getD, List.getElem?_eq_getElem (by omega : r / N < rs.length)]; rfl
  rw [hg]
  have hrow := rd_ints (P := P) (W := W) (zs := rs[r / N]) hE he hc ⟨m, (xs[r / N]).2, by rw [hR, ← e4]⟩ (r % N) hj
  rw [← hrow, List.getElem?_take_of_lt hj, List.getElem?_drop]
  congr 1
  have := Nat.div_add_mod r N
  rw [Nat.mul_comm]; omega
/-- A variable that is a table lies in its block. -/
theorem rin_tab {n : String} {g N : Nat} {T : TypeId} {k : IntKind} {f : Nat → Nat} {d : DataW Unit} (hg : P.globalNamed n = some g) (ht : (P.globals[g]?).map (·.type) = some T) (hN : 0 < N) (h : VarT P W n d) (hr : ∀ cs, RdT P W T cs d → ∀ r, r < N → cs[r]? = some (.int k (f r : Int))) : RIn W ⟨g, arr k N f, T⟩ := by
  obtain ⟨g', t, cs, h1, h2, h3, h4⟩ := h
  obtain rfl := Option.some.inj (hg.symm.trans h1)
  obtain rfl := Option.some.inj (ht.symm.trans h2)
  have key : ∀ r, r < N → W.cell? ⟨g, r, none⟩ = some (.int k (f r : Int)) := fun r hrr => by
    rw [World.var?_cell hg h3 r]
    have := hr cs.toList h4 r hrr
    simpa using this
  refine ⟨?_, fun o ho => ?_⟩
  · have h0 := key 0 hN
    unfold World.cell? at h0
    cases hh : W.heap[g]? with
    | none => rw [hh] at h0; cases h0
    | some b => exact (Array.getElem?_eq_some_iff.1 hh).1
  · have ho : o < N := by simpa [arr_size] using ho
    show W.cell? ⟨g, o, none⟩ = (arr k N f)[o]?
    rw [arr_get ho]; exact key o ho
theorem memR_nil : MemR [] W := fun _ h => absurd h List.not_mem_nil
theorem memR_cons {x : Blk} {m : Mem} (h : RIn W x) (hm : MemR m W) : MemR (x :: m) W := fun y hy => by
  rcases List.mem_cons.1 hy with rfl | hy
  · exact h
  · exact hm y hy
theorem memR_app {m m' : Mem} (h : MemR m W) (hm : MemR m' W) : MemR (m ++ m') W := fun y hy => by
  rcases List.mem_append.1 hy with hy | hy
  · exact h y hy
  · exact hm y hy
end
theorem Fn.wide {P : Program} {G G' : Mem} {f : FuncId} {args : Array Value} {v : Value} (h : Fn P G f args v) (hs : ∀ x ∈ G, x ∈ G') : Fn P G' f args v := fun w hG => h w fun x hx => hG x (hs x hx)
end Go.Proofs.YtpmgjnfllnokjaaDoor

/-
  Where the listed package variables lie. Written by a program of ours.
-/
namespace Go.Proofs.YtpmgjnfllnokjaaDoor
open Go.ChangeShapes Go.WideShapes Go.ChangeAt Go.RowKit

theorem laid_signet_blake_orders_rin {W : World} (h : VarT Tryd.prog W "signet/blake.orders" Rows.laid_signet_blake_orders) : RIn W (⟨1, arr .i64 160 sgf, 75⟩ : Blk) :=
  rin_tab (by kernel_rfl) (by kernel_rfl) (by decide) h fun cs hc r hr => by
    have h1 := rd_rows (M := 10) (N := 16) (rs := [[0, 1, 2, 3, 4, 5, 6, 7, 8, 9, 10, 11, 12, 13, 14, 15], [14, 10, 4, 8, 9, 15, 13, 6, 1, 12, 0, 2, 11, 7, 5, 3], [11, 8, 12, 0, 5, 2, 15, 13, 10, 14, 3, 6, 7, 1, 9, 4], [7, 9, 3, 1, 13, 12, 11, 14, 2, 6, 5, 10, 4, 0, 15, 8], [9, 0, 5, 7, 2, 4, 10, 15, 14, 1, 11, 12, 6, 8, 3, 13], [2, 12, 6, 10, 0, 11, 8, 3, 4, 13, 7, 5, 15, 14, 1, 9], [12, 5, 1, 15, 14, 13, 4, 10, 0, 7, 6, 3, 9, 2, 8, 11], [13, 11, 7, 14, 12, 1, 3, 9, 5, 0, 15, 4, 8, 6, 2, 10], [6, 15, 14, 9, 11, 3, 0, 8, 12, 2, 13, 7, 1, 4, 10, 5], [10, 2, 8, 4, 7, 6, 1, 5, 15, 11, 9, 14, 3, 12, 13, 0]]) (show Tryd.prog.underlying 75 = some (.array 10 74) by kernel_rfl) (show Tryd.prog.underlying 74 = some (.array 16 3) by kernel_rfl) (show Tryd.prog.underlying 3 = some (.int .i64) by kernel_rfl) (show Tryd.prog.cellsOf 3 = 1 by kernel_rfl) (show Tryd.prog.cellsOf 74 = 16 by kernel_rfl) hc r hr
    rw [h1]
    have h2 : ((List.range 160).all fun r => (([[0, 1, 2, 3, 4, 5, 6, 7, 8, 9, 10, 11, 12, 13, 14, 15], [14, 10, 4, 8, 9, 15, 13, 6, 1, 12, 0, 2, 11, 7, 5, 3], [11, 8, 12, 0, 5, 2, 15, 13, 10, 14, 3, 6, 7, 1, 9, 4], [7, 9, 3, 1, 13, 12, 11, 14, 2, 6, 5, 10, 4, 0, 15, 8], [9, 0, 5, 7, 2, 4, 10, 15, 14, 1, 11, 12, 6, 8, 3, 13], [2, 12, 6, 10, 0, 11, 8, 3, 4, 13, 7, 5, 15, 14, 1, 9], [12, 5, 1, 15, 14, 13, 4, 10, 0, 7, 6, 3, 9, 2, 8, 11], [13, 11, 7, 14, 12, 1, 3, 9, 5, 0, 15, 4, 8, 6, 2, 10], [6, 15, 14, 9, 11, 3, 0, 8, 12, 2, 13, 7, 1, 4, 10, 5], [10, 2, 8, 4, 7, 6, 1, 5, 15, 11, 9, 14, 3, 12, 13, 0]] : List (List Int)).getD (r / 16) []).getD (r % 16) 0 == (sgf r : Int)) = true := by decide +kernel
    have h3 := (List.all_eq_true.1 h2) r (List.mem_range.2 hr)
    rw [eq_of_beq h3]
theorem laid_signet_signetref_iv_rin {W : World} (h : VarT Tryd.prog W "signet/signetref.iv" Rows.laid_signet_signetref_iv) : RIn W (⟨0, arr .u32 8 ivf, 45⟩ : Blk) :=
  rin_tab (by kernel_rfl) (by kernel_rfl) (by decide) h fun cs hc r hr => by
    have h1 := rd_ints (zs := [1779033703, 3144134277, 1013904242, 2773480762, 1359893119, 2600822924, 528734635, 1541459225]) (show Tryd.prog.underlying 45 = some (.array 8 44) by kernel_rfl) (show Tryd.prog.underlying 44 = some (.int .u32) by kernel_rfl) (show Tryd.prog.cellsOf 44 = 1 by kernel_rfl) hc r hr
    rw [h1]
    have h2 : ((List.range 8).all fun r => ([1779033703, 3144134277, 1013904242, 2773480762, 1359893119, 2600822924, 528734635, 1541459225] : List Int).getD r 0 == (ivf r : Int)) = true := by decide +kernel
    have h3 := (List.all_eq_true.1 h2) r (List.mem_range.2 hr)
    rw [eq_of_beq h3]
end Go.Proofs.YtpmgjnfllnokjaaDoor

/-
  Arguments that are arrays of numbers, by value: opened, and read again in another world.
-/
namespace Go.Proofs.YtpmgjnfllnokjaaDoor
open Go.ChangeShapes Go.WideShapes Go.ChangeAt Go.RowKit

section
variable {H : Type} {enc : TypeId × Value → H} {P : Program} {n : Nat} {t e : TypeId} {k : IntKind}

theorem trod_int_any (he : P.underlying e = some (.int k)) (w w' : World) (b b' : Nat) (s s' : Nat → Bool) (h h' : Bool) (fuel : Nat) (cs : List Value) :
    DataW.trod enc P w b s h fuel e cs = DataW.trod enc P w' b' s' h' fuel e cs := by
  cases fuel with
  | zero => rfl
  | succ m =>
    unfold DataW.trod
    rw [he]
    match cs with
    | [] => rfl
    | [v] => cases v <;> rfl
    | v :: _ :: _ => cases v <;> rfl

theorem trod_arr_any (hT : P.underlying t = some (.array n e)) (he : P.underlying e = some (.int k)) (w w' : World) (b b' : Nat) (s s' : Nat → Bool) (h h' : Bool) (fuel : Nat) (cs : List Value) :
    DataW.trod enc P w b s h fuel t cs = DataW.trod enc P w' b' s' h' fuel t cs := by
  cases fuel with
  | zero => rfl
  | succ m =>
    unfold DataW.trod
    rw [hT]
    simp only
    congr 2
    congr 1
    funext i
    exact trod_int_any he w w' b b' s s' h h' m _

theorem Trod_arr (hT : P.underlying t = some (.array n e)) (he : P.underlying e = some (.int k)) {w : World} {b : Nat} {s : Nat → Bool} {h : Bool} {v : Value} {d : DataW H} {ps : List MemPlace}
    (hd : DataW.Trod enc P w b s h t v d ps) (w' : World) (b' : Nat) (s' : Nat → Bool) (h' : Bool) : DataW.Trod enc P w' b' s' h' t v d ps := by
  obtain ⟨fuel, hf⟩ := hd
  exact ⟨fuel, by rw [← hf]; exact trod_arr_any hT he _ _ _ _ _ _ _ _ _ _⟩

theorem open_arr {bound : Nat} (hT : P.underlying t = some (.array n e)) (he : P.underlying e = some (.int k)) (hc : P.cellsOf e = 1) (hct : P.cellsOf t = n)
    (hb : ∀ z : Int, (Lit.int k z).wf = true → 0 ≤ z ∧ z < bound) {W : World} {b0 b : Nat} {s : Nat → Bool} {h : Bool} {v : Value} {d : DataW H} {ps : List MemPlace}
    (hval : Value.okWide P W .any b0 t v) (hd : DataW.Trod enc P W b s h t v d ps) :
    ∃ f : Nat → Nat, v = .agg (arr k n f) ∧ (∀ j, j < n → f j < bound) ∧ ps = [] := by
  unfold Value.okWide at hval
  rw [hT] at hval
  obtain ⟨cs, rfl, hsz, _⟩ := hval
  rw [hct] at hsz
  obtain ⟨fuel, hf⟩ := hd
  obtain ⟨xs, m, _, ex, _, hl, hel⟩ := DataW.trod_array hT hf
  have key : ∀ i, i < n → ∃ z : Int, cs[i]? = some (.int k z) ∧ 0 ≤ z ∧ z < bound ∧ ∃ x, xs[i]? = some x ∧ x.2 = [] := fun i hi => by
    have hE := hel i hi
    have hxi : i < xs.length := by omega
    rw [hc, Nat.mul_one, List.getElem?_eq_getElem hxi] at hE
    obtain ⟨z, e1, e2, hw⟩ := DataW.trod_int he hE
    have h0 : ((cs.toList.drop i).take 1)[0]? = some (.int k z) := by
      have : (Value.agg cs).cells.toList = cs.toList := rfl
      rw [this] at e1
      rw [e1]; rfl
    refine ⟨z, by simpa using h0, (hb z hw).1, (hb z hw).2, xs[i], List.getElem?_eq_getElem hxi, by rw [e2]⟩
  refine ⟨fun i => match cs[i]? with
    | some (.int _ z) => z.toNat
    | _ => 0, ?_, fun j hj => ?_, ?_⟩
  · congr 1
    apply Array.ext_getElem?
    intro i
    by_cases hi : i < n
    · obtain ⟨z, h1, h2, _⟩ := key i hi
      rw [arr_get hi, h1]
      simp only
      congr 2
      omega
    · rw [Array.getElem?_eq_none (by omega), Array.getElem?_eq_none (by rw [arr_size]; omega)]
  · obtain ⟨z, h1, h2, h3, _⟩ := key j hj
    simp only [h1]
    omega
  · have e2 : ps = xs.flatMap (·.2) := (Prod.mk.inj ex).2
    rw [e2]
    apply List.flatMap_eq_nil_iff.2
    intro x hx
    obtain ⟨i, hi, rfl⟩ := List.getElem_of_mem hx
    obtain ⟨_, _, _, _, y, h4, h5⟩ := key i (by omega)
    rw [List.getElem?_eq_getElem hi] at h4
    rw [Option.some.inj h4]; exact h5

theorem wf_u8 (z : Int) (h : (Lit.int .u8 z).wf = true) : 0 ≤ z ∧ z < (256 : Nat) := by
  simp [Lit.wf, IntKind.min, IntKind.max, IntKind.signed, IntKind.bits] at h
  omega
theorem wf_u64 (z : Int) (h : (Lit.int .u64 z).wf = true) : 0 ≤ z ∧ z < (18446744073709551616 : Nat) := by
  simp [Lit.wf, IntKind.min, IntKind.max, IntKind.signed, IntKind.bits] at h
  omega

end
end Go.Proofs.YtpmgjnfllnokjaaDoor

/-
  Arguments that are slices of bytes: opened.
-/
namespace Go.Proofs.YtpmgjnfllnokjaaDoor
open Go Go.ChangeShapes Go.WideShapes Go.ChangeAt Go.RowKit

section
variable {H : Type} {enc : TypeId × Value → H} {P : Program} {t e : TypeId}
theorem row_of_cell {w : World} {b o : Nat} {u : Value} (h : w.cell? ⟨b, o, none⟩ = some u) : ∃ cs et fr, w.heap[b]? = some (.cells cs et fr) := by
  unfold World.cell? at h
  cases hb : w.heap[b]? with
  | none => simp [hb] at h
  | some ob => cases ob with
    | cells cs t fr => exact ⟨cs, t, fr, rfl⟩
    | _ => simp [hb] at h
theorem open_bytes {W : World} {b0 base : Nat} {s : Nat → Bool} {held : Bool} {v : Value} {d : DataW H} {ps : List MemPlace} (ht : P.underlying t = some (.slice e)) (he : P.underlying e = some (.int .u8)) (hc : P.cellsOf e = 1)
    (hval : Value.okWide P W .any b0 t v) (hd : DataW.Trod enc P W base s held t v d ps) :
    ∃ (l : List Nat) (G : Mem), (∀ b ∈ l, b < 256) ∧ l.length ≤ maxLen ∧ Shows G 1 v l.length (l.map by8) ∧ MemR G W := by
  have hcell : ∃ a len cap, v = .slice a len cap := by
    unfold Value.okWide at hval
    rw [ht] at hval
    unfold Cell.okWide at hval
    rw [ht] at hval
    unfold Cell.ok at hval
    rw [ht] at hval
    cases v <;> simp_all
  obtain ⟨a0, len0, cap0, rfl⟩ := hcell
  obtain ⟨fuel, hf⟩ := hd
  rcases open_ints ht he hc hf with ⟨h1, _⟩ | ⟨a, len, cap, zs, h1, _, hlc, hcm, hzl, _, hz, hw⟩
  · have h1 : [Value.slice a0 len0 cap0] = [.slice none 0 0] := h1
    injection h1 with h1 _
    rw [h1]
    exact ⟨[], [], by simp, by simp [maxLen], .inl ⟨rfl, rfl, none, 0, rfl, fun _ => rfl⟩, by simp [MemR]⟩
  · have h1 : [Value.slice a0 len0 cap0] = [.slice (some a) len cap] := h1
    injection h1 with h1 _
    rw [h1]
    have hlz : len ≤ zs.length := by rw [hzl]; split <;> omega
    by_cases h0 : len = 0
    · subst h0
      exact ⟨[], [], by simp, by simp [maxLen], .inl ⟨rfl, rfl, some a, cap, rfl, fun h => by cases h⟩, by simp [MemR]⟩
    · obtain ⟨b, off, rfl, hc2⟩ := ints_at hz (by omega)
      obtain ⟨cs, et, fr, hb⟩ := row_of_cell (hc2 0 (by omega))
      have hcl : ∀ o, W.cell? ⟨b, o, none⟩ = cs[o]? := fun o => by simp [World.cell?, hb]
      have hlen : ((zs.take len).map Int.toNat).length = len := by simp; omega
      have hwj : ∀ j, j < len → 0 ≤ zs.getD j 0 ∧ zs.getD j 0 ≤ 255 := fun j hj => bounds_u8 (hw (zs.getD j 0) (by
        have : zs.getD j 0 = zs[j] := by simp [List.getD, show j < zs.length by omega]
        rw [this]; exact List.getElem_mem _))
      have hnth : ∀ j x, ((zs.take len).map Int.toNat)[j]? = some x → j < len ∧ x = (zs.getD j 0).toNat := fun j x hj => by
        have hlt := (List.getElem?_eq_some_iff.1 hj).1
        rw [hlen] at hlt
        refine ⟨hlt, ?_⟩
        rw [List.getElem?_map, List.getElem?_take, if_pos hlt, List.getElem?_eq_getElem (by omega)] at hj
        simp at hj
        rw [← hj]
        simp [List.getD, show j < zs.length by omega]
      refine ⟨(zs.take len).map Int.toNat, [⟨b, cs, et⟩], fun q hq => ?_, by rw [hlen]; omega, .inr ⟨b, off, cap, cs, et, by rw [hlen], by rw [hlen]; exact hlc, by simp, by simp, ?_, fun j u hj => ?_⟩, fun x hx => ?_⟩
      · obtain ⟨j, hj⟩ := List.getElem?_of_mem hq
        obtain ⟨h2, rfl⟩ := hnth j q hj
        have := hwj j h2
        omega
      · have h2 := hc2 (len - 1) (by omega)
        rw [hcl] at h2
        have := (Array.getElem?_eq_some_iff.1 h2).1
        rw [hlen]
        omega
      · rw [List.getElem?_map] at hj
        cases hx : ((zs.take len).map Int.toNat)[j]? with
        | none => rw [hx] at hj; cases hj
        | some x =>
          rw [hx, Option.map_some] at hj
          obtain ⟨h2, rfl⟩ := hnth j x hx
          have h3 := hwj j h2
          injection hj with hj
          rw [← hj, ← hcl, hc2 j (by omega)]
          have e1 : (((zs.getD j 0).toNat : Nat) : Int) = zs.getD j 0 := by omega
          show some (Value.int IntKind.u8 (zs.getD j 0)) = some (Value.int IntKind.u8 (((zs.getD j 0).toNat : Nat) : Int))
          rw [e1]
      · simp at hx; subst hx
        exact ⟨(Array.getElem?_eq_some_iff.1 hb).1, fun o _ => hcl o⟩
theorem str_list (s : ByteArray) : ∃ l : List Nat, (∀ x ∈ l, x < 256) ∧ s = bstr l := by
  refine ⟨s.data.toList.map UInt8.toNat, fun x hx => ?_, ?_⟩
  · obtain ⟨b, _, rfl⟩ := List.mem_map.1 hx
    exact b.toNat_lt
  · unfold bstr
    rw [List.map_map]
    have : s.data.toList.map (UInt8.ofNat ∘ UInt8.toNat) = s.data.toList := by
      conv => rhs; rw [← List.map_id s.data.toList]
      exact List.map_congr_left fun b _ => by simp
    rw [this]
/-- A struct of three numbers and a string. -/
theorem open_raw {W : World} {b0 base : Nat} {sp : Nat → Bool} {held : Bool} {v : Value} {d : DataW H} {ps : List MemPlace} {f0 f1 f2 f3 : Field} (ht : P.underlying t = some (.struct #[f0, f1, f2, f3])) (hc : P.cellsOf t = 4)
    (o0 : f0.offset = 0) (o1 : f1.offset = 1) (o2 : f2.offset = 2) (o3 : f3.offset = 3) (u0 : P.underlying f0.type = some (.int .i64)) (u1 : P.underlying f1.type = some (.int .i64)) (u2 : P.underlying f2.type = some (.int .i64)) (u3 : P.underlying f3.type = some .string)
    (c0 : P.cellsOf f0.type = 1) (c1 : P.cellsOf f1.type = 1) (c2 : P.cellsOf f2.type = 1) (c3 : P.cellsOf f3.type = 1) (hval : Value.okWide P W .any b0 t v) (hd : DataW.Trod enc P W base sp held t v d ps) :
    ∃ (za zb zc : Int) (tx : List Nat), (∀ x ∈ tx, x < 256) ∧ v = .agg #[.int .i64 za, .int .i64 zb, .int .i64 zc, sv tx] := by
  unfold Value.okWide at hval
  rw [ht] at hval
  obtain ⟨cs, rfl, hsz, _⟩ := hval
  obtain ⟨fuel, hf⟩ := hd
  obtain ⟨xs, m, _, _, _, hxl, hel⟩ := DataW.trod_struct ht hf
  have hxl : xs.length = 4 := hxl
  have g : ∀ i, i < 4 → ∃ y, xs[i]? = some y := fun i hi => ⟨xs[i], List.getElem?_eq_getElem (by omega)⟩
  have hcs : (Value.agg cs).cells.toList = cs.toList := rfl
  rw [hc] at hsz
  obtain ⟨l, hl⟩ : ∃ l, cs = l.toArray := ⟨cs.toList, by simp⟩
  subst hl
  have hl4 : l.length = 4 := by simpa using hsz
  match l, hl4 with
  | [a, b, c, e], _ =>
    obtain ⟨y0, hy0⟩ := g 0 (by omega)
    obtain ⟨y1, hy1⟩ := g 1 (by omega)
    obtain ⟨y2, hy2⟩ := g 2 (by omega)
    obtain ⟨y3, hy3⟩ := g 3 (by omega)
    have e0 := hel 0 f0 rfl
    have e1 := hel 1 f1 rfl
    have e2 := hel 2 f2 rfl
    have e3 := hel 3 f3 rfl
    rw [hcs, o0, c0, hy0] at e0
    rw [hcs, o1, c1, hy1] at e1
    rw [hcs, o2, c2, hy2] at e2
    rw [hcs, o3, c3, hy3] at e3
    obtain ⟨za, h0, _⟩ := DataW.trod_int u0 e0
    obtain ⟨zb, h1, _⟩ := DataW.trod_int u1 e1
    obtain ⟨zc, h2, _⟩ := DataW.trod_int u2 e2
    obtain ⟨s, h3, _⟩ := DataW.trod_string u3 e3
    obtain ⟨tx, htx, hs⟩ := str_list s
    simp at h0 h1 h2 h3
    exact ⟨za, zb, zc, tx, htx, by rw [h0, h1, h2, h3, hs]⟩
theorem wf_u32 (z : Int) (h : (Lit.int .u32 z).wf = true) : ∃ c : Nat, z = (c : Int) ∧ c < 4294967296 := by
  simp [Lit.wf, IntKind.min, IntKind.max, IntKind.signed, IntKind.bits] at h
  exact ⟨z.toNat, by omega, by omega⟩
end
end Go.Proofs.YtpmgjnfllnokjaaDoor

/-
  How long bytes are that are handed in.
-/
namespace Go.Proofs.YtpmgjnfllnokjaaDoor
open Go Go.ChangeShapes Go.WideShapes Go.ChangeAt Go.RowKit

abbrev RB : Nat := 140737488351232
section
variable {H : Type} {enc : TypeId × Value → H} {P : Program} {t e : TypeId}
theorem shows_num {B : Mem} {z n len cap : Nat} {a : Option Addr} {xs : List Value} (h : Shows B z (.slice a len cap) n xs) : len = n := by
  rcases h with ⟨h0, _, oa, c, h1, _⟩ | ⟨b, o, c, cs, t, h1, _⟩
  · injection h1 with _ h2; rw [h2, h0]
  · injection h1
theorem open_sized {W : World} {base : Nat} {s : Nat → Bool} {held : Bool} {v : Value} {d : DataW H} {ps : List MemPlace} {B : Mem} {n : Nat} {xs : List Value} (ht : P.underlying t = some (.slice e)) (he : P.underlying e = some (.int .u8)) (hc : P.cellsOf e = 1) (hby : P.bytesOf e = 1)
    (hd : DataW.Trod enc P W base s held t v d ps) (hw : ∀ k ∈ d.weights P t, k ≤ RB) (hv : Shows B 1 v n xs) : n ≤ RB := by
  have hcell : ∃ a len cap, v = .slice a len cap := by
    rcases hv with ⟨_, _, oa, c, h1, _⟩ | ⟨b, o, c, cs, t, h1, _⟩
    · exact ⟨_, _, _, h1⟩
    · exact ⟨_, _, _, h1⟩
  obtain ⟨a0, len0, cap0, rfl⟩ := hcell
  have hn := shows_num hv
  subst hn
  obtain ⟨fuel, hf⟩ := hd
  rcases open_ints ht he hc hf with ⟨h1, _⟩ | ⟨a, len, cap, zs, h1, _, hlc, hcm, hzl, hx, hz, _⟩
  · have h1 : [Value.slice a0 len0 cap0] = [.slice none 0 0] := h1
    injection h1 with h1 _
    injection h1 with _ h2
    omega
  · have h1 : [Value.slice a0 len0 cap0] = [.slice (some a) len cap] := h1
    injection h1 with h1 _
    injection h1 with _ h2
    have hlz : len ≤ zs.length := by rw [hzl]; split <;> omega
    injection hx with hx _
    subst hx
    have := hw ((lits .u8 (zs.take len)).length * 1 + (lits .u8 (zs.drop len)).length * 1) (by
      simp only [DataW.weights, ht, hby]
      rw [← Nat.add_mul]
      exact List.mem_cons_self)
    have hl : (lits (H := H) .u8 (zs.take len)).length = len := by simp [lits]; omega
    rw [hl] at this
    omega
theorem each_sized {ts : List TypeId} {ds : List (DataW H)} (h : (DataW.weightsEach P ts ds).all (· ≤ reachBytes) = true) {j : Nat} {t : TypeId} {d : DataW H} (ht : ts[j]? = some t) (hd : ds[j]? = some d) : ∀ n ∈ d.weights P t, n ≤ RB := fun n hn => by
  have := List.all_eq_true.1 h _ (DataW.weights_mem_each ht hd n hn)
  exact of_decide_eq_true this
end
end Go.Proofs.YtpmgjnfllnokjaaDoor

/-
  How long bytes are that are handed in, where a bound of all that is handed in is known.
-/
namespace Go.Proofs.YtpmgjnfllnokjaaDoor
open Go Go.ChangeShapes Go.WideShapes Go.ChangeAt Go.RowKit
section
variable {H : Type} {enc : TypeId × Value → H} {P : Program} {t e : TypeId}
theorem bulk_pos (d : DataW H) : 1 ≤ Rows.uptoBulk d := by
  cases d with
  | lit l => cases l <;> simp [Rows.uptoBulk]
  | _ => simp [Rows.uptoBulk]
theorem bulk_len : ∀ l : List (DataW H), l.length ≤ Rows.uptoBulkAll l
  | [] => by simp
  | d :: l => by
    have h1 := bulk_pos d
    have h2 := bulk_len l
    simp only [Rows.uptoBulkAll, List.length_cons]
    omega
theorem bulk_in : ∀ {l : List (DataW H)} {j : Nat} {d : DataW H}, l[j]? = some d → Rows.uptoBulk d ≤ Rows.uptoBulkAll l
  | x :: l, 0, d, h => by
    have : x = d := by simpa using h
    subst this
    simp only [Rows.uptoBulkAll]; omega
  | x :: l, j + 1, d, h => by
    have := bulk_in (l := l) (j := j) (d := d) (by simpa using h)
    simp only [Rows.uptoBulkAll]; omega
theorem bulk_of {ds : List (DataW H)} (h : Rows.uptoSmall H ds = true) {j : Nat} {d : DataW H} (hd : ds[j]? = some d) : Rows.uptoBulk d ≤ 1048576 := Nat.le_trans (bulk_in hd) (of_decide_eq_true h)
theorem open_bulk {W : World} {base : Nat} {s : Nat → Bool} {held : Bool} {v : Value} {d : DataW H} {ps : List MemPlace} {B : Mem} {n : Nat} {xs : List Value} (ht : P.underlying t = some (.slice e)) (he : P.underlying e = some (.int .u8)) (hc : P.cellsOf e = 1)
    (hd : DataW.Trod enc P W base s held t v d ps) (hw : Rows.uptoBulk d ≤ 1048576) (hv : Shows B 1 v n xs) : n ≤ 1048576 := by
  have hcell : ∃ a len cap, v = .slice a len cap := by
    rcases hv with ⟨_, _, oa, c, h1, _⟩ | ⟨b, o, c, cs, t, h1, _⟩
    · exact ⟨_, _, _, h1⟩
    · exact ⟨_, _, _, h1⟩
  obtain ⟨a0, len0, cap0, rfl⟩ := hcell
  have hn := shows_num hv
  subst hn
  obtain ⟨fuel, hf⟩ := hd
  rcases open_ints ht he hc hf with ⟨h1, _⟩ | ⟨a, len, cap, zs, h1, _, hlc, hcm, hzl, hx, hz, _⟩
  · have h1 : [Value.slice a0 len0 cap0] = [.slice none 0 0] := h1
    injection h1 with h1 _
    injection h1 with _ h2
    omega
  · have h1 : [Value.slice a0 len0 cap0] = [.slice (some a) len cap] := h1
    injection h1 with h1 _
    injection h1 with _ h2
    have hlz : len ≤ zs.length := by rw [hzl]; split <;> omega
    injection hx with hx _
    subst hx
    have h3 := bulk_len (lits (H := H) .u8 (zs.take len))
    have hl : (lits (H := H) .u8 (zs.take len)).length = len := by simp [lits]; omega
    simp only [Rows.uptoBulk] at hw
    omega
end
end Go.Proofs.YtpmgjnfllnokjaaDoor
