/- The card of signetkeep.ShakeMeets: for all numbers, keys and every text it returns true, and its arguments read as they did. -/
import Derived.Test.YtacflmjoigffpaaGreatDoorRows
import Derived.Test.YtacflmjoigffpaaGreatDoorTie
import Derived.Test.YtacflmjoigffpaaGreatDoorCards
import Derived.Test.YtacflmjoigffpaaGreatDoorKX15
import Derived.SevenTiedAt
import Derived.LaidMore
import Derived.Lay
import Derived.Stop.Joined
import Derived.Deep.DeepHandedRow
import Derived.Deep.DeepWitnessRowRef
namespace Go.Proofs.YtacflmjoigffpaaGreatDoor
open Go.ChangeShapes Go.WideShapes Go.ChangeAt Go.RowKit

theorem z1O : ownKnob Tryz.prog.godebug = none := by kernel_rfl
theorem yj : laidOutB Tryz.prog = true := by kernel_rfl
theorem vC : Tryz.prog.underlying 3 = some (.int .i64) := by kernel_rfl
theorem xP : Tryz.prog.underlying 23 = some (.array 32 5) := by kernel_rfl
theorem w7 : Tryz.prog.underlying 5 = some (.int .u8) := by kernel_rfl
theorem xZ : Tryz.prog.cellsOf 5 = 1 := by kernel_rfl
theorem xN : Tryz.prog.cellsOf 23 = 32 := by kernel_rfl
theorem VR : Tryz.prog.underlying 9 = some (.string) := by kernel_rfl
theorem VP {W : World} (h : laidMetH Tryz.prog Rows.shakeMeetsRow.laid W) : MemR [(⟨0, (nm6.map sv).toArray, 85⟩ : Blk), (⟨6, arr .i64 160 sgf, 312⟩ : Blk)] W := by
  have hv := zcM (by kernel_rfl) h
  exact (WJ (ww (hv _ (List.mem_of_getElem? (i := 4) rfl))) (WJ (vD (hv _ (List.mem_of_getElem? (i := 3) rfl))) z6d))
theorem Fx.more9 {P : Program} {G G' : Mem} {f : FuncId} {args : Array Value} {S : Value → Mem → Mem → Prop} (h : Fx P G [] f args S) (hG : ∀ x ∈ G, x ∈ G') : Fx P G' [] f args S := fun w a b c _ => h w (fun x hx => a x (hG x hx)) b c (fun _ _ => by simp)
/-- Does the name lead back to the pattern? -/
def zlg (nm base ds : List Nat) : Bool := match ixp (zQ nm) with
  | none => decide (zQ nm = base) && decide (ds = [])
  | some i => decide (xx (yl ((zQ nm).drop i) 43) = some ds) && decide ((zQ nm).take i = base)
theorem zbS {nm base ds : List Nat} (h : zlg nm base ds = true) : (ixp (zQ nm) = none ∧ zQ nm = base ∧ ds = []) ∨ ∃ i, ixp (zQ nm) = some i ∧ xx (yl ((zQ nm).drop i) 43) = some ds ∧ (zQ nm).take i = base := by
  unfold zlg at h
  cases e : ixp (zQ nm) with
  | none => rw [e] at h; dsimp only at h; rw [Bool.and_eq_true] at h; exact .inl ⟨rfl, of_decide_eq_true h.1, of_decide_eq_true h.2⟩
  | some i => rw [e] at h; dsimp only at h; rw [Bool.and_eq_true] at h; exact .inr ⟨i, rfl, of_decide_eq_true h.1, of_decide_eq_true h.2⟩
/-- What is reckoned of each base pattern and mask. -/
def zkj (k n : Nat) : Bool :=
  decide ((wP (nmK k) (ci (psK k n))).1 = 0) && (decide (∀ b ∈ (nmK k), b < 256) && (decide (decide ((nmK k) = nXF) = false) && (decide (∀ b ∈ (XF (nmK k) (ci (psK k n))), b < 256) && (decide ((XF (nmK k) (ci (psK k n))).length ≤ 1000) && (decide ((psK k n).length ≤ 4) && (decide ((wq (nmK k) (ci (psK k n)) 0).length ≤ 1000 ∧ (wq (nmK k) (ci (psK k n)) 1).length ≤ 1000) && (decide (∀ x ∈ (wq (nmK k) (ci (psK k n)) 0), x = 2) && (decide (∀ x ∈ (wq (nmK k) (ci (psK k n)) 1), x = 2) && (decide (∀ q ∈ (wt (nmK k) (ci (psK k n))), (∀ x ∈ q, 1 ≤ x ∧ x ≤ 7) ∧ q.length ≤ 6) && (decide ((wt (nmK k) (ci (psK k n))).length ≤ 10) && (decide (wA false (ci (wq (nmK k) (ci (psK k n)) 0)) (ci (wq (nmK k) (ci (psK k n)) 1)) ((wt (nmK k) (ci (psK k n))).map ci) = 0) && (decide (∀ q ∈ ci (wq (nmK k) (ci (psK k n)) 0) :: ci (wq (nmK k) (ci (psK k n)) 1) :: (wt (nmK k) (ci (psK k n))).map ci, q.length * 8 ≤ 1000) && (decide (W6 (psK k n).length true (wt (nmK k) (ci (psK k n))) (false, false, decide (2 ∈ wq (nmK k) (ci (psK k n)) 1), decide (2 ∈ wq (nmK k) (ci (psK k n)) 0)) 0 = true) && (decide (((xY true (wt (nmK k) (ci (psK k n))) (false, false, decide (2 ∈ wq (nmK k) (ci (psK k n)) 1), decide (2 ∈ wq (nmK k) (ci (psK k n)) 0))).2.2.1 = false ∧ (xY true (wt (nmK k) (ci (psK k n))) (false, false, decide (2 ∈ wq (nmK k) (ci (psK k n)) 1), decide (2 ∈ wq (nmK k) (ci (psK k n)) 0))).2.2.2 = false ∧ k ≠ 2) ∨ ((xY true (wt (nmK k) (ci (psK k n))) (false, false, decide (2 ∈ wq (nmK k) (ci (psK k n)) 1), decide (2 ∈ wq (nmK k) (ci (psK k n)) 0))).2.2.1 = true ∧ (xY true (wt (nmK k) (ci (psK k n))) (false, false, decide (2 ∈ wq (nmK k) (ci (psK k n)) 1), decide (2 ∈ wq (nmK k) (ci (psK k n)) 0))).2.2.2 = false ∧ k ≠ 2) ∨ ((xY true (wt (nmK k) (ci (psK k n))) (false, false, decide (2 ∈ wq (nmK k) (ci (psK k n)) 1), decide (2 ∈ wq (nmK k) (ci (psK k n)) 0))).2.2.1 = true ∧ (xY true (wt (nmK k) (ci (psK k n))) (false, false, decide (2 ∈ wq (nmK k) (ci (psK k n)) 1), decide (2 ∈ wq (nmK k) (ci (psK k n)) 0))).2.2.2 = true ∧ k ≠ 2) ∨ ((xY true (wt (nmK k) (ci (psK k n))) (false, false, decide (2 ∈ wq (nmK k) (ci (psK k n)) 1), decide (2 ∈ wq (nmK k) (ci (psK k n)) 0))).2.2.1 = true ∧ (xY true (wt (nmK k) (ci (psK k n))) (false, false, decide (2 ∈ wq (nmK k) (ci (psK k n)) 1), decide (2 ∈ wq (nmK k) (ci (psK k n)) 0))).2.2.2 = true ∧ k = 2)) && (decide (z9x (nmK k) (nmK k) false (decide ((nmK k) = nXF)) (ci (psK k n)) (ci (psK k n)) (ci (wq (nmK k) (ci (psK k n)) 0)) (ci (wq (nmK k) (ci (psK k n)) 0)) (ci (wq (nmK k) (ci (psK k n)) 1)) (ci (wq (nmK k) (ci (psK k n)) 1)) ((wt (nmK k) (ci (psK k n))).map ci) ((wt (nmK k) (ci (psK k n))).map ci) = true) && (decide (Xx (XF (nmK k) (ci (psK k n))) = false) && (decide (zlg (XF (nmK k) (ci (psK k n))) (nmK k) (psK k n) = true) && true)))))))))))))))))
theorem Yv {p : Prop} [Decidable p] {b : Bool} (h : (decide p && b) = true) : p ∧ b = true := by
  rw [Bool.and_eq_true] at h; exact ⟨of_decide_eq_true h.1, h.2⟩
theorem zeQ : ∀ k, k < 6 → ∀ n, n < 16 → zkj k n = true := by decide +kernel
theorem z0O {G : Mem} (m zn zm zk : Int) (a b c d : Nat → Nat) (ha : B32 a) (hb : B32 b) (hc : B32 c) (hd : B32 d) (tx : List Nat) (htb : ∀ x ∈ tx, x < 256) : Fn Tryz.prog ((⟨0, (nm6.map sv).toArray, 85⟩ : Blk) :: (⟨6, arr .i64 160 sgf, 312⟩ : Blk) :: ([MLB m] ++ G)) 6 #[.int .i64 zn, .int .i64 zm, .agg (arr .u8 32 a), .agg (arr .u8 32 b), .agg (arr .u8 32 c), .agg (arr .u8 32 d), .int .i64 zk, sv tx] (.bool true) := by
  have hk := z42 zn (m := 6) (by decide)
  have hn := z42 zm (m := 16) (by decide)
  have hPO := z2j (G := (⟨6, arr .i64 160 sgf, 312⟩ : Blk) :: ([MLB m] ++ G)) [] zn zm (fun G' v l ps hl hz hv h0 => WA l v ps hl hv (by omega) h0)
  obtain ⟨k, hk9⟩ : ∃ k, pkn zn 6 = k := ⟨_, rfl⟩
  obtain ⟨n, hn9⟩ : ∃ n, pkn zm 16 = n := ⟨_, rfl⟩
  rw [hk9] at hk hPO
  rw [hn9] at hn hPO
  have h := zeQ k hk n hn
  unfold zkj at h
  obtain ⟨he, h⟩ := Yv h
  obtain ⟨hb8, h⟩ := Yv h
  obtain ⟨e0, h⟩ := Yv h
  obtain ⟨hnb, h⟩ := Yv h
  obtain ⟨hnl, h⟩ := Yv h
  obtain ⟨hd4, h⟩ := Yv h
  obtain ⟨hqq, h⟩ := Yv h
  obtain ⟨ht0, h⟩ := Yv h
  obtain ⟨ht1, h⟩ := Yv h
  obtain ⟨hq7, h⟩ := Yv h
  obtain ⟨hul, h⟩ := Yv h
  obtain ⟨hpf, h⟩ := Yv h
  obtain ⟨hzl, h⟩ := Yv h
  obtain ⟨hga, h⟩ := Yv h
  obtain ⟨hLF, h⟩ := Yv h
  obtain ⟨hsm, h⟩ := Yv h
  obtain ⟨hbad, h⟩ := Yv h
  obtain ⟨hpar, _⟩ := Yv h
  rw [e0] at hPO
  refine z2o (List.mem_cons_of_mem _ List.mem_cons_self) zn zm zk a b c d ha hb hc hd tx htb (nmK k) (psK k n) (wq (nmK k) (ci (psK k n)) 0) (wq (nmK k) (ci (psK k n)) 1) (wt (nmK k) (ci (psK k n))) _ (XF (nmK k) (ci (psK k n))) hnb (by omega) hd4 hqq ht0 ht1 hq7 hul hpf (fun q hq => by have := hzl q hq; omega) hga rfl (by rw [hk9]; exact hLF) hPO (fun X vp va vb vt tv hvt hL => ?_) (fun X => ?_)
  · refine zeo (nmK k) false vp va vb vt tv (ci (psK k n)) (ci (wq (nmK k) (ci (psK k n)) 0)) (ci (wq (nmK k) (ci (psK k n)) 1)) ((wt (nmK k) (ci (psK k n))).map ci) hb8 hvt hL ⟨by rw [List.length_map]; omega, fun l hl => ?_⟩ (by unfold ci; rw [List.length_map]; omega) he hsm
    rcases List.mem_cons.1 hl with rfl | hl
    · unfold ci; rw [List.length_map]; omega
    · have := hzl l hl; omega
  · have hst : ∀ {v : Value} {l1 nw : Mem}, (l1 = [] ∧ ∃ w', v = Value.tuple #[w', ii 0] ∧ YM (nmK k) false (psK k n) (wq (nmK k) (ci (psK k n)) 0) (wq (nmK k) (ci (psK k n)) 1) (wt (nmK k) (ci (psK k n))) w' nw) → (l1 = [] ∧ ∃ w', v = Value.tuple #[w', ii 0] ∧ Z3 (nmK k) false (ci (psK k n)) (wq (nmK k) (ci (psK k n)) 0) (wq (nmK k) (ci (psK k n)) 1) (wt (nmK k) (ci (psK k n))) w' nw) := fun ⟨h1, w', h2, vp, h3, h4⟩ => ⟨h1, w', h2, vp, z5W h3, h4⟩
    have hmore : ∀ x ∈ MLB m :: G, x ∈ ((⟨0, (nm6.map sv).toArray, 85⟩ : Blk) :: (⟨6, arr .i64 160 sgf, 312⟩ : Blk) :: ([MLB m] ++ G)) ++ X := fun x hx => List.mem_append_left _ (List.mem_cons_of_mem _ (List.mem_cons_of_mem _ hx))
    rcases zbS hpar with ⟨hi, hmid, hds⟩ | ⟨i, hi, hpl, hmid⟩
    · have e := ziq (G := G) (XF (nmK k) (ci (psK k n))) m hnb (by omega) hbad hi (by rw [hmid, ← show ci (psK k n) = [] by rw [hds]; rfl]; exact he)
      rw [hmid, e0, ← hds] at e
      exact (e.more9 hmore).imp fun v l1 nw h => hst h
    · have e := zia (G := G) (XF (nmK k) (ci (psK k n))) m hnb (by omega) hbad i hi (psK k n) hpl (by rw [hmid]; exact he)
      rw [hmid, e0] at e
      exact (e.more9 hmore).imp fun v l1 nw h => hst h

theorem Vf (os : Os) : laidMetH Tryz.prog Rows.shakeMeetsRow.laid ((World.laidAll Tryz.prog os Rows.shakeMeetsRow.laid).forCall (fun _ _ => 0) ⟨#[], #[.int .i64 0, .int .i64 0, .agg (arr .u8 32 fun _ => 0), .agg (arr .u8 32 fun _ => 0), .agg (arr .u8 32 fun _ => 0), .agg (arr .u8 32 fun _ => 0), .int .i64 0, .string ByteArray.empty], []⟩).memory := by
  rw [MakeChecks.laidMetH_plain _ _ _ (by kernel_rfl)]; exact laidMet_laidAll _ (by kernel_rfl) (by kernel_rfl)
set_option maxRecDepth 100000 in
set_option maxHeartbeats 4000000 in
theorem Wc (os : Os) (started : os.Started) (H : Type) (enc : TypeId × Value → H) (F : Stop.Interp) :
    ReturnsInHanded {} Tryz.checked os 6 .any ((OpenSpec.ofChange Rows.shakeMeetsSpec).preRow enc Tryz.prog Tryz.f6 Rows.shakeMeetsRow.domain false Rows.shakeMeetsRow.laid)
      (((OpenSpec.ofChange Rows.shakeMeetsSpec).at F).post enc Tryz.prog Tryz.f6 false true false false) := by
  refine returnsInHanded_of_row (C := Tryz.checked) (s := OpenSpec.ofChange Rows.shakeMeetsSpec) z1O started (by kernel_rfl) Tryz.func6
    (witness_row_atRef (enc := enc) (C := Tryz.checked) false (World.laidAll Tryz.prog os Rows.shakeMeetsRow.laid) #[.int .i64 0, .int .i64 0, .agg (arr .u8 32 fun _ => 0), .agg (arr .u8 32 fun _ => 0), .agg (arr .u8 32 fun _ => 0), .agg (arr .u8 32 fun _ => 0), .int .i64 0, .string ByteArray.empty] (World.laidAll_os _ _ _) (by kernel_rfl) (by kernel_rfl) (by kernel_rfl)
      (OpenSpec.preRow_of_cond 8 (show DataW.whole enc Tryz.prog ((World.laidAll Tryz.prog os Rows.shakeMeetsRow.laid).forCall (fun _ _ => 0) ⟨#[], #[.int .i64 0, .int .i64 0, .agg (arr .u8 32 fun _ => 0), .agg (arr .u8 32 fun _ => 0), .agg (arr .u8 32 fun _ => 0), .agg (arr .u8 32 fun _ => 0), .int .i64 0, .string ByteArray.empty], []⟩).memory Tryz.f6.params.toList Rows.shakeMeetsSpec.vars false (#[.int .i64 0, .int .i64 0, .agg (arr .u8 32 fun _ => 0), .agg (arr .u8 32 fun _ => 0), .agg (arr .u8 32 fun _ => 0), .agg (arr .u8 32 fun _ => 0), .int .i64 0, .string ByteArray.empty] : Array Value).toList 8 = some ([.lit (.int .i64 0), .lit (.int .i64 0), .agg [.lit (.int .u8 0), .lit (.int .u8 0), .lit (.int .u8 0), .lit (.int .u8 0), .lit (.int .u8 0), .lit (.int .u8 0), .lit (.int .u8 0), .lit (.int .u8 0), .lit (.int .u8 0), .lit (.int .u8 0), .lit (.int .u8 0), .lit (.int .u8 0), .lit (.int .u8 0), .lit (.int .u8 0), .lit (.int .u8 0), .lit (.int .u8 0), .lit (.int .u8 0), .lit (.int .u8 0), .lit (.int .u8 0), .lit (.int .u8 0), .lit (.int .u8 0), .lit (.int .u8 0), .lit (.int .u8 0), .lit (.int .u8 0), .lit (.int .u8 0), .lit (.int .u8 0), .lit (.int .u8 0), .lit (.int .u8 0), .lit (.int .u8 0), .lit (.int .u8 0), .lit (.int .u8 0), .lit (.int .u8 0)], .agg [.lit (.int .u8 0), .lit (.int .u8 0), .lit (.int .u8 0), .lit (.int .u8 0), .lit (.int .u8 0), .lit (.int .u8 0), .lit (.int .u8 0), .lit (.int .u8 0), .lit (.int .u8 0), .lit (.int .u8 0), .lit (.int .u8 0), .lit (.int .u8 0), .lit (.int .u8 0), .lit (.int .u8 0), .lit (.int .u8 0), .lit (.int .u8 0), .lit (.int .u8 0), .lit (.int .u8 0), .lit (.int .u8 0), .lit (.int .u8 0), .lit (.int .u8 0), .lit (.int .u8 0), .lit (.int .u8 0), .lit (.int .u8 0), .lit (.int .u8 0), .lit (.int .u8 0), .lit (.int .u8 0), .lit (.int .u8 0), .lit (.int .u8 0), .lit (.int .u8 0), .lit (.int .u8 0), .lit (.int .u8 0)], .agg [.lit (.int .u8 0), .lit (.int .u8 0), .lit (.int .u8 0), .lit (.int .u8 0), .lit (.int .u8 0), .lit (.int .u8 0), .lit (.int .u8 0), .lit (.int .u8 0), .lit (.int .u8 0), .lit (.int .u8 0), .lit (.int .u8 0), .lit (.int .u8 0), .lit (.int .u8 0), .lit (.int .u8 0), .lit (.int .u8 0), .lit (.int .u8 0), .lit (.int .u8 0), .lit (.int .u8 0), .lit (.int .u8 0), .lit (.int .u8 0), .lit (.int .u8 0), .lit (.int .u8 0), .lit (.int .u8 0), .lit (.int .u8 0), .lit (.int .u8 0), .lit (.int .u8 0), .lit (.int .u8 0), .lit (.int .u8 0), .lit (.int .u8 0), .lit (.int .u8 0), .lit (.int .u8 0), .lit (.int .u8 0)], .agg [.lit (.int .u8 0), .lit (.int .u8 0), .lit (.int .u8 0), .lit (.int .u8 0), .lit (.int .u8 0), .lit (.int .u8 0), .lit (.int .u8 0), .lit (.int .u8 0), .lit (.int .u8 0), .lit (.int .u8 0), .lit (.int .u8 0), .lit (.int .u8 0), .lit (.int .u8 0), .lit (.int .u8 0), .lit (.int .u8 0), .lit (.int .u8 0), .lit (.int .u8 0), .lit (.int .u8 0), .lit (.int .u8 0), .lit (.int .u8 0), .lit (.int .u8 0), .lit (.int .u8 0), .lit (.int .u8 0), .lit (.int .u8 0), .lit (.int .u8 0), .lit (.int .u8 0), .lit (.int .u8 0), .lit (.int .u8 0), .lit (.int .u8 0), .lit (.int .u8 0), .lit (.int .u8 0), .lit (.int .u8 0)], .lit (.int .i64 0), .lit (.string [])], [], []) by kernel_rfl) (by kernel_rfl) (fun k hk => by cases hk) (by kernel_rfl) (Vf os))) ?_
  intro W base args ds gs before hval0 hW _ hcond hwt hL hsh9 _
  have hval : ∀ (j : Nat) t v, Tryz.f6.params[j]? = some t → args[j]? = some v → Value.okWide Tryz.prog W .any base t v := hval0
  have hW' := hW
  obtain ⟨p, q, hA0, hV, rfl, hfz, hnd⟩ := hW
  have hA : DataW.TrodAll enc Tryz.prog W 0 (fun _ => true) true Tryz.f6.params.toList args.toList ds p := hA0
  rw [Tryz.params6] at hA hval
  have hplt := DataW.TrodAll.lt hA
  obtain ⟨v0, v1, v2, v3, v4, v5, v6, v7, d0, d1, d2, d3, d4, d5, d6, d7, p0, p1, p2, p3, p4, p5, p6, p7, rfl, rfl, rfl, h0, h1, h2, h3, h4, h5, h6, h7⟩ := z2l hA
  obtain ⟨rfl, rfl⟩ := trodVars_none hV
  have hk0 := h0
  have hk1 := h1
  have hk2 := h2
  have hk3 := h3
  have hk4 := h4
  have hk5 := h5
  have hk6 := h6
  have hk7 := h7
  obtain ⟨z0, rfl, rfl, rfl, wf0⟩ := open_int vC (hval 0 3 v0 rfl rfl) h0
  obtain ⟨z1, rfl, rfl, rfl, wf1⟩ := open_int vC (hval 1 3 v1 rfl rfl) h1
  obtain ⟨f2, rfl, hf2, rfl⟩ := Ww xP w7 xZ xN z9U (hval 2 23 v2 rfl rfl) h2
  obtain ⟨f3, rfl, hf3, rfl⟩ := Ww xP w7 xZ xN z9U (hval 3 23 v3 rfl rfl) h3
  obtain ⟨f4, rfl, hf4, rfl⟩ := Ww xP w7 xZ xN z9U (hval 4 23 v4 rfl rfl) h4
  obtain ⟨f5, rfl, hf5, rfl⟩ := Ww xP w7 xZ xN z9U (hval 5 23 v5 rfl rfl) h5
  obtain ⟨z6, rfl, rfl, rfl, wf6⟩ := open_int vC (hval 6 3 v6 rfl rfl) h6
  obtain ⟨l7, rfl, hl7, hm7⟩ := zg1 VR (hval 7 9 v7 rfl rfl) h7
  obtain ⟨m90, hM90⟩ := zaR (t := 3) (zero := #[.int .i64 0]) hsh9 (g := 1) (by decide +kernel) (by kernel_rfl) rfl (by kernel_rfl) (by kernel_rfl) (by kernel_rfl)
  clear hA0 hval0
  simp only [List.append_nil] at hW'
  refine ((z0O (G := []) m90 z0 z1 z6 f2 f3 f4 f5 hf2 hf3 hf4 hf5 l7 hl7) W (zdz (VP hL) (WJ hM90 z6d))).mono fun e W' ⟨he, hb⟩ => ?_
  subst he
  exact ⟨_, rfl, _, _, _, [], _, [], hW', trodAll_mk1 (shut_bool Tryz.underlying4 _), z5N (Below.trod yj (by kernel_rfl) (of_decide_eq_true (by kernel_rfl)) hk0 hb (fun x hx => hplt x (by first | exact absurd hx List.not_mem_nil | simp [hx]))) (Below.trod yj (by kernel_rfl) (of_decide_eq_true (by kernel_rfl)) hk1 hb (fun x hx => hplt x (by first | exact absurd hx List.not_mem_nil | simp [hx]))) (Below.trod yj (by kernel_rfl) (of_decide_eq_true (by kernel_rfl)) hk2 hb (fun x hx => hplt x (by first | exact absurd hx List.not_mem_nil | simp [hx]))) (Below.trod yj (by kernel_rfl) (of_decide_eq_true (by kernel_rfl)) hk3 hb (fun x hx => hplt x (by first | exact absurd hx List.not_mem_nil | simp [hx]))) (Below.trod yj (by kernel_rfl) (of_decide_eq_true (by kernel_rfl)) hk4 hb (fun x hx => hplt x (by first | exact absurd hx List.not_mem_nil | simp [hx]))) (Below.trod yj (by kernel_rfl) (of_decide_eq_true (by kernel_rfl)) hk5 hb (fun x hx => hplt x (by first | exact absurd hx List.not_mem_nil | simp [hx]))) (Below.trod yj (by kernel_rfl) (of_decide_eq_true (by kernel_rfl)) hk6 hb (fun x hx => hplt x (by first | exact absurd hx List.not_mem_nil | simp [hx]))) (Below.trod yj (by kernel_rfl) (of_decide_eq_true (by kernel_rfl)) hk7 hb (fun x hx => hplt x (by first | exact absurd hx List.not_mem_nil | simp [hx]))), rfl, hb.frame _, fun h => by cases h⟩

theorem shakeMeets_holds : Rows.ShakeMeetsSaid :=
  OpenClaim.holds_of_cond 6 Tryz.f6 rfl rfl rfl rfl rfl rfl rfl ⟨rfl, rfl, rfl, rfl, rfl⟩ rfl rfl rfl rfl rfl (by kernel_rfl) Tryz.func6 (by kernel_rfl)
    (of_decide_eq_true (by kernel_rfl)) (by unfold Func.isWrapper; first | (rw [if_pos (by decide +kernel)]; kernel_rfl) | (rw [if_neg (by decide +kernel)]; exact ⟨rfl, rfl⟩))
    (fun os started H enc _ F => by rw [OpenClaim.pre_eq_preRow]; exact Wc os started H enc F)
theorem shakeMeets_card : Rows.ShakeMeetsCardSaid :=
  Claim7.holds_tied_plain_at .later [] [.data, .data, .data, .data, .data] true (true, "bffbb27c40c369cbe86b303f0e563c51a590108e383ec468e3123ab626a64304") false shakeMeets_holds (fun _ h => by cases h) (by kernel_rfl) (fun _ h => by cases h) shakeMeets_row_tie rfl ⟨rfl, rfl⟩ (by kernel_rfl) rfl
    (fun f fn hf hfn => by
      obtain rfl : f = 6 := Option.some.inj ((show Tryz.prog.funcNamed Tryz.f6.name = some 6 by kernel_rfl).symm.trans hf) |>.symm
      obtain rfl : fn = Tryz.f6 := (Option.some.inj (Tryz.func6.symm.trans hfn)).symm
      exact ⟨by kernel_rfl, fun j t ht => by
        rw [Tryz.params6] at ht
        have hm : t ∈ [3, 3, 23, 23, 23, 23, 3, 9] := by have h9 := Array.mem_of_getElem? ht; simpa using h9
        have hall : ([3, 3, 23, 23, 23, 23, 3, 9].all fun u => !Tryz.prog.wantsStandIn u) = true := by kernel_rfl
        exact (show Tryz.prog.wantsStandIn t = false by simpa using List.all_eq_true.1 hall t hm)⟩)
    (by kernel_rfl)
#print axioms shakeMeets_card
end Go.Proofs.YtacflmjoigffpaaGreatDoor
