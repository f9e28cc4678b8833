/- The card of signetkeep.ShakeTurns: for every number and three keys it returns true (named besides: tokW, plBad, plD, tokW_len, FL, turnW, YX, RX, turnR, RY, dcseal_err, dcseal_ok, dsSeal_ok, dused_err_seal, dused_ok_seal, over_ok, sealL_lt, seal_cells), and its arguments read as they did. -/
import Derived.Test.YthljakcegoohlaaGreatDoorRows
import Derived.Test.YthljakcegoohlaaGreatDoorTie
import Derived.Test.YthljakcegoohlaaGreatDoorCards
import Derived.Test.YthljakcegoohlaaGreatDoorKT12
import Derived.Test.YthljakcegoohlaaGreatDoorKT13
import Derived.Test.YthljakcegoohlaaGreatDoorKT6
import Derived.Test.YthljakcegoohlaaGreatDoorKT5
import Derived.SevenTiedAt
import Derived.LaidMore
import Derived.Lay
import Derived.Stop.Joined
import Derived.Deep.DeepHandedRow
import Derived.Deep.DeepWitnessRowRef
namespace Go.Proofs.YthljakcegoohlaaGreatDoor
open Go.ChangeShapes Go.WideShapes Go.ChangeAt Go.RowKit

theorem shakeTurns_own : ownKnob Tryz.prog.godebug = none := by kernel_rfl
theorem shakeTurns_laid : laidOutB Tryz.prog = true := by kernel_rfl
theorem shakeTurns_und3 : Tryz.prog.underlying 3 = some (.int .i64) := by kernel_rfl
theorem shakeTurns_und23 : Tryz.prog.underlying 23 = some (.array 32 5) := by kernel_rfl
theorem shakeTurns_und5 : Tryz.prog.underlying 5 = some (.int .u8) := by kernel_rfl
theorem shakeTurns_cel5 : Tryz.prog.cellsOf 5 = 1 := by kernel_rfl
theorem shakeTurns_cel23 : Tryz.prog.cellsOf 23 = 32 := by kernel_rfl
theorem shakeTurns_glob {W : World} (h : laidMetH Tryz.prog Rows.shakeTurnsRow.laid W) : MemR [(⟨0, (nm6.map sv).toArray, 86⟩ : Blk), (⟨6, arr .i64 160 sgf, 313⟩ : Blk)] W := by
  have hv := laid_metH (by kernel_rfl) h
  exact (memR_cons (laid_signet_signetkeep_bases_rin (hv _ (List.mem_of_getElem? (i := 4) rfl))) (memR_cons (laid_signet_blake_orders_rin (hv _ (List.mem_of_getElem? (i := 3) rfl))) memR_nil))
theorem Fx.more9 {P : Program} {G G' : Mem} {f : FuncId} {args : Array Value} {S : Value → Mem → Mem → Prop} (h : Fx P G [] f args S) (hG : ∀ x ∈ G, x ∈ G') : Fx P G' [] f args S := fun w a b c _ => h w (fun x hx => a x (hG x hx)) b c (fun _ _ => by simp)
theorem shakeTurns_k {G : Mem} (m zn : Int) (a b c : Nat → Nat) (ha : B32 a) (hb : B32 b) (base q0 q1 q9 : List Nat) (ut : List (List Nat)) (hk : nmK (pkn zn 6) = base) (h4 : psK (pkn zn 6) (pkn 0 16) = []) (he : (pwith base []).1 = 0) (hb8 : ∀ x ∈ base, x < 256) (e0 : decide (base = nXF) = false) (e1 : wq base (ci []) 0 = q0) (e2 : wq base (ci []) 1 = q1) (e3 : wt base (ci []) = (1 :: q9) :: ut)
    (hnb : ∀ x ∈ pname base [], x < 256) (hnl : (pname base []).length ≤ 1000) (hmid : midN (pname base []) = base) (hbad : bad1 (pname base []) = false) (hix : ixp base = none)
    (hqq : q0.length ≤ 1000 ∧ q1.length ≤ 1000) (ht0 : ∀ x ∈ q0, x = 1 ∨ x = 2) (ht1 : ∀ x ∈ q1, x = 1 ∨ x = 2) (hq7 : ∀ x ∈ 1 :: q9, 1 ≤ x ∧ x ≤ 7) (hq6 : (1 :: q9).length ≤ 6) (hul : ut.length ≤ 10) (hpf : pfault false (ci q0) (ci q1) (((1 :: q9) :: ut).map ci) = 0) (hzl : ∀ q ∈ ci q0 :: ci q1 :: ((1 :: q9) :: ut).map ci, q.length * 8 ≤ 1000) (hsm : sameP base base false false [] [] (ci q0) (ci q0) (ci q1) (ci q1) (((1 :: q9) :: ut).map ci) (((1 :: q9) :: ut).map ci) = true) :
    Fn Tryz.prog ((⟨0, (nm6.map sv).toArray, 86⟩ : Blk) :: (⟨6, arr .i64 160 sgf, 313⟩ : Blk) :: ([MLB m] ++ G)) 7 #[.int .i64 zn, .agg (arr .u8 32 a), .agg (arr .u8 32 b), .agg (arr .u8 32 c)] (.bool true) := by
  have hPO := patternOfI_fn (G := (⟨6, arr .i64 160 sgf, 313⟩ : Blk) :: ([MLB m] ++ G)) [] zn 0 (fun G' v l ps hl hz hv h0 => dwith_ok l v ps hl hv (by omega) h0)
  rw [h4, hk, e0, e1, e2, e3] at hPO
  refine shakeTurns_fn (List.mem_cons_of_mem _ List.mem_cons_self) zn a b c ha hb base q0 q1 q9 ut (pname base []) hnb (by omega) hqq ht0 ht1 hq7 hq6 hul hpf (fun q hq => by have := hzl q hq; omega) hPO (fun X vp va vb vt tv hvt hL => ?_) (fun X => ?_)
  · refine dshow_ok base false vp va vb vt tv [] (ci q0) (ci q1) (((1 :: q9) :: ut).map ci) hb8 hvt hL ⟨by simp; omega, fun l hl => ?_⟩ (by simp) he ?_
    · rcases List.mem_cons.1 hl with rfl | hl
      · simp
      · have := hzl l hl; omega
    · rw [e0]
      rw [show wq base [] 0 = q0 from e1, show wq base [] 1 = q1 from e2, show wt base [] = (1 :: q9) :: ut from e3]
      exact hsm
  · have e := dp_n_ok (G := G) (pname base []) m hnb (by omega) hbad (by rw [hmid]; exact hix) (by rw [hmid]; exact he)
    rw [hmid, e0, e1, e2, e3] at e
    exact (e.more9 fun x hx => List.mem_append_left _ (List.mem_cons_of_mem _ (List.mem_cons_of_mem _ hx))).imp fun v l1 nw ⟨h1, w', h2, h3⟩ => ⟨h1, w', h2, h3⟩
theorem shakeTurns_all {G : Mem} (m zn : Int) (a b c : Nat → Nat) (ha : B32 a) (hb : B32 b) : Fn Tryz.prog ((⟨0, (nm6.map sv).toArray, 86⟩ : Blk) :: (⟨6, arr .i64 160 sgf, 313⟩ : Blk) :: ([MLB m] ++ G)) 7 #[.int .i64 zn, .agg (arr .u8 32 a), .agg (arr .u8 32 b), .agg (arr .u8 32 c)] (.bool true) := by
  have hl := pkn_lt zn (m := 6) (by decide)
  have h16 : pkn 0 16 = 0 := by decide
  have hc : pkn zn 6 = 0 ∨ pkn zn 6 = 1 ∨ pkn zn 6 = 2 ∨ pkn zn 6 = 3 ∨ pkn zn 6 = 4 ∨ pkn zn 6 = 5 := by omega
  rcases hc with h | h | h | h | h | h
  · exact shakeTurns_k m zn a b c ha hb (nmK 0) (wq (nmK 0) (ci []) 0) (wq (nmK 0) (ci []) 1) ((wt (nmK 0) (ci [])).getD 0 []).tail (wt (nmK 0) (ci [])).tail (by rw [h]) (by rw [h, h16]; decide +kernel) (by decide +kernel) (by decide +kernel) (by decide +kernel) rfl rfl (by decide +kernel) (by decide +kernel) (by decide +kernel) (by decide +kernel) (by decide +kernel) (by decide +kernel) (by decide +kernel) (by decide +kernel) (by decide +kernel) (by decide +kernel) (by decide +kernel) (by decide +kernel) (by decide +kernel) (by decide +kernel) (by decide +kernel)
  · exact shakeTurns_k m zn a b c ha hb (nmK 1) (wq (nmK 1) (ci []) 0) (wq (nmK 1) (ci []) 1) ((wt (nmK 1) (ci [])).getD 0 []).tail (wt (nmK 1) (ci [])).tail (by rw [h]) (by rw [h, h16]; decide +kernel) (by decide +kernel) (by decide +kernel) (by decide +kernel) rfl rfl (by decide +kernel) (by decide +kernel) (by decide +kernel) (by decide +kernel) (by decide +kernel) (by decide +kernel) (by decide +kernel) (by decide +kernel) (by decide +kernel) (by decide +kernel) (by decide +kernel) (by decide +kernel) (by decide +kernel) (by decide +kernel) (by decide +kernel)
  · exact shakeTurns_k m zn a b c ha hb (nmK 2) (wq (nmK 2) (ci []) 0) (wq (nmK 2) (ci []) 1) ((wt (nmK 2) (ci [])).getD 0 []).tail (wt (nmK 2) (ci [])).tail (by rw [h]) (by rw [h, h16]; decide +kernel) (by decide +kernel) (by decide +kernel) (by decide +kernel) rfl rfl (by decide +kernel) (by decide +kernel) (by decide +kernel) (by decide +kernel) (by decide +kernel) (by decide +kernel) (by decide +kernel) (by decide +kernel) (by decide +kernel) (by decide +kernel) (by decide +kernel) (by decide +kernel) (by decide +kernel) (by decide +kernel) (by decide +kernel)
  · exact shakeTurns_k m zn a b c ha hb (nmK 3) (wq (nmK 3) (ci []) 0) (wq (nmK 3) (ci []) 1) ((wt (nmK 3) (ci [])).getD 0 []).tail (wt (nmK 3) (ci [])).tail (by rw [h]) (by rw [h, h16]; decide +kernel) (by decide +kernel) (by decide +kernel) (by decide +kernel) rfl rfl (by decide +kernel) (by decide +kernel) (by decide +kernel) (by decide +kernel) (by decide +kernel) (by decide +kernel) (by decide +kernel) (by decide +kernel) (by decide +kernel) (by decide +kernel) (by decide +kernel) (by decide +kernel) (by decide +kernel) (by decide +kernel) (by decide +kernel)
  · exact shakeTurns_k m zn a b c ha hb (nmK 4) (wq (nmK 4) (ci []) 0) (wq (nmK 4) (ci []) 1) ((wt (nmK 4) (ci [])).getD 0 []).tail (wt (nmK 4) (ci [])).tail (by rw [h]) (by rw [h, h16]; decide +kernel) (by decide +kernel) (by decide +kernel) (by decide +kernel) rfl rfl (by decide +kernel) (by decide +kernel) (by decide +kernel) (by decide +kernel) (by decide +kernel) (by decide +kernel) (by decide +kernel) (by decide +kernel) (by decide +kernel) (by decide +kernel) (by decide +kernel) (by decide +kernel) (by decide +kernel) (by decide +kernel) (by decide +kernel)
  · exact shakeTurns_k m zn a b c ha hb (nmK 5) (wq (nmK 5) (ci []) 0) (wq (nmK 5) (ci []) 1) ((wt (nmK 5) (ci [])).getD 0 []).tail (wt (nmK 5) (ci [])).tail (by rw [h]) (by rw [h, h16]; decide +kernel) (by decide +kernel) (by decide +kernel) (by decide +kernel) rfl rfl (by decide +kernel) (by decide +kernel) (by decide +kernel) (by decide +kernel) (by decide +kernel) (by decide +kernel) (by decide +kernel) (by decide +kernel) (by decide +kernel) (by decide +kernel) (by decide +kernel) (by decide +kernel) (by decide +kernel) (by decide +kernel) (by decide +kernel)

theorem shakeTurns_laidm (os : Os) : laidMetH Tryz.prog Rows.shakeTurnsRow.laid ((World.laidAll Tryz.prog os Rows.shakeTurnsRow.laid).forCall (fun _ _ => 0) ⟨#[], #[.int .i64 0, .agg (arr .u8 32 fun _ => 0), .agg (arr .u8 32 fun _ => 0), .agg (arr .u8 32 fun _ => 0)], []⟩).memory := by
  rw [MakeChecks.laidMetH_plain _ _ _ (by kernel_rfl)]; exact laidMet_laidAll _ (by kernel_rfl) (by kernel_rfl)
set_option maxRecDepth 100000 in
set_option maxHeartbeats 4000000 in
theorem shakeTurns_lifted (os : Os) (started : os.Started) (H : Type) (enc : TypeId × Value → H) (F : Stop.Interp) :
    ReturnsInHanded {} Tryz.checked os 7 .any ((OpenSpec.ofChange Rows.shakeTurnsSpec).preRow enc Tryz.prog Tryz.f7 Rows.shakeTurnsRow.domain false Rows.shakeTurnsRow.laid)
      (((OpenSpec.ofChange Rows.shakeTurnsSpec).at F).post enc Tryz.prog Tryz.f7 false true false false) := by
  refine returnsInHanded_of_row (C := Tryz.checked) (s := OpenSpec.ofChange Rows.shakeTurnsSpec) shakeTurns_own started (by kernel_rfl) Tryz.func7
    (witness_row_atRef (enc := enc) (C := Tryz.checked) false (World.laidAll Tryz.prog os Rows.shakeTurnsRow.laid) #[.int .i64 0, .agg (arr .u8 32 fun _ => 0), .agg (arr .u8 32 fun _ => 0), .agg (arr .u8 32 fun _ => 0)] (World.laidAll_os _ _ _) (by kernel_rfl) (by kernel_rfl) (by kernel_rfl)
      (OpenSpec.preRow_of_cond 8 (show DataW.whole enc Tryz.prog ((World.laidAll Tryz.prog os Rows.shakeTurnsRow.laid).forCall (fun _ _ => 0) ⟨#[], #[.int .i64 0, .agg (arr .u8 32 fun _ => 0), .agg (arr .u8 32 fun _ => 0), .agg (arr .u8 32 fun _ => 0)], []⟩).memory Tryz.f7.params.toList Rows.shakeTurnsSpec.vars false (#[.int .i64 0, .agg (arr .u8 32 fun _ => 0), .agg (arr .u8 32 fun _ => 0), .agg (arr .u8 32 fun _ => 0)] : Array Value).toList 8 = some ([.lit (.int .i64 0), .agg [.lit (.int .u8 0), .lit (.int .u8 0), .lit (.int .u8 0), .lit (.int .u8 0), .lit (.int .u8 0), .lit (.int .u8 0), .lit (.int .u8 0), .lit (.int .u8 0), .lit (.int .u8 0), .lit (.int .u8 0), .lit (.int .u8 0), .lit (.int .u8 0), .lit (.int .u8 0), .lit (.int .u8 0), .lit (.int .u8 0), .lit (.int .u8 0), .lit (.int .u8 0), .lit (.int .u8 0), .lit (.int .u8 0), .lit (.int .u8 0), .lit (.int .u8 0), .lit (.int .u8 0), .lit (.int .u8 0), .lit (.int .u8 0), .lit (.int .u8 0), .lit (.int .u8 0), .lit (.int .u8 0), .lit (.int .u8 0), .lit (.int .u8 0), .lit (.int .u8 0), .lit (.int .u8 0), .lit (.int .u8 0)], .agg [.lit (.int .u8 0), .lit (.int .u8 0), .lit (.int .u8 0), .lit (.int .u8 0), .lit (.int .u8 0), .lit (.int .u8 0), .lit (.int .u8 0), .lit (.int .u8 0), .lit (.int .u8 0), .lit (.int .u8 0), .lit (.int .u8 0), .lit (.int .u8 0), .lit (.int .u8 0), .lit (.int .u8 0), .lit (.int .u8 0), .lit (.int .u8 0), .lit (.int .u8 0), .lit (.int .u8 0), .lit (.int .u8 0), .lit (.int .u8 0), .lit (.int .u8 0), .lit (.int .u8 0), .lit (.int .u8 0), .lit (.int .u8 0), .lit (.int .u8 0), .lit (.int .u8 0), .lit (.int .u8 0), .lit (.int .u8 0), .lit (.int .u8 0), .lit (.int .u8 0), .lit (.int .u8 0), .lit (.int .u8 0)], .agg [.lit (.int .u8 0), .lit (.int .u8 0), .lit (.int .u8 0), .lit (.int .u8 0), .lit (.int .u8 0), .lit (.int .u8 0), .lit (.int .u8 0), .lit (.int .u8 0), .lit (.int .u8 0), .lit (.int .u8 0), .lit (.int .u8 0), .lit (.int .u8 0), .lit (.int .u8 0), .lit (.int .u8 0), .lit (.int .u8 0), .lit (.int .u8 0), .lit (.int .u8 0), .lit (.int .u8 0), .lit (.int .u8 0), .lit (.int .u8 0), .lit (.int .u8 0), .lit (.int .u8 0), .lit (.int .u8 0), .lit (.int .u8 0), .lit (.int .u8 0), .lit (.int .u8 0), .lit (.int .u8 0), .lit (.int .u8 0), .lit (.int .u8 0), .lit (.int .u8 0), .lit (.int .u8 0), .lit (.int .u8 0)]], [], []) by kernel_rfl) (by kernel_rfl) (fun k hk => by cases hk) (by kernel_rfl) (shakeTurns_laidm os))) ?_
  intro W base args ds gs before hval0 hW _ hcond hwt hL hsh9 _
  have hval : ∀ (j : Nat) t v, Tryz.f7.params[j]? = some t → args[j]? = some v → Value.okWide Tryz.prog W .any base t v := hval0
  have hW' := hW
  obtain ⟨p, q, hA0, hV, rfl, hfz, hnd⟩ := hW
  have hA : DataW.TrodAll enc Tryz.prog W 0 (fun _ => true) true Tryz.f7.params.toList args.toList ds p := hA0
  rw [Tryz.params7] at hA hval
  have hplt := DataW.TrodAll.lt hA
  obtain ⟨v0, v1, v2, v3, d0, d1, d2, d3, p0, p1, p2, p3, rfl, rfl, rfl, h0, h1, h2, h3⟩ := trodAll_four hA
  obtain ⟨rfl, rfl⟩ := trodVars_none hV
  have hk0 := h0
  have hk1 := h1
  have hk2 := h2
  have hk3 := h3
  obtain ⟨z0, rfl, rfl, rfl, wf0⟩ := open_int shakeTurns_und3 (hval 0 3 v0 rfl rfl) h0
  obtain ⟨f1, rfl, hf1, rfl⟩ := open_arr shakeTurns_und23 shakeTurns_und5 shakeTurns_cel5 shakeTurns_cel23 wf_u8 (hval 1 23 v1 rfl rfl) h1
  obtain ⟨f2, rfl, hf2, rfl⟩ := open_arr shakeTurns_und23 shakeTurns_und5 shakeTurns_cel5 shakeTurns_cel23 wf_u8 (hval 2 23 v2 rfl rfl) h2
  obtain ⟨f3, rfl, hf3, rfl⟩ := open_arr shakeTurns_und23 shakeTurns_und5 shakeTurns_cel5 shakeTurns_cel23 wf_u8 (hval 3 23 v3 rfl rfl) h3
  obtain ⟨m90, hM90⟩ := shape_int (t := 3) (zero := #[.int .i64 0]) hsh9 (g := 1) (by decide +kernel) (by kernel_rfl) rfl (by kernel_rfl) (by kernel_rfl) (by kernel_rfl)
  clear hA0 hval0
  simp only [List.append_nil] at hW'
  refine ((shakeTurns_all (G := []) m90 z0 f1 f2 f3 hf1 hf2) W (memR_app (shakeTurns_glob hL) (memR_cons hM90 memR_nil))).mono fun e W' ⟨he, hb⟩ => ?_
  subst he
  exact ⟨_, rfl, _, _, _, [], _, [], hW', trodAll_mk1 (shut_bool Tryz.underlying4 _), trodAll_mk4 (Below.trod shakeTurns_laid (by kernel_rfl) (of_decide_eq_true (by kernel_rfl)) hk0 hb (fun x hx => hplt x (by first | exact absurd hx List.not_mem_nil | simp [hx]))) (Below.trod shakeTurns_laid (by kernel_rfl) (of_decide_eq_true (by kernel_rfl)) hk1 hb (fun x hx => hplt x (by first | exact absurd hx List.not_mem_nil | simp [hx]))) (Below.trod shakeTurns_laid (by kernel_rfl) (of_decide_eq_true (by kernel_rfl)) hk2 hb (fun x hx => hplt x (by first | exact absurd hx List.not_mem_nil | simp [hx]))) (Below.trod shakeTurns_laid (by kernel_rfl) (of_decide_eq_true (by kernel_rfl)) hk3 hb (fun x hx => hplt x (by first | exact absurd hx List.not_mem_nil | simp [hx]))), rfl, hb.frame _, fun h => by cases h⟩

theorem shakeTurns_holds : Rows.ShakeTurnsSaid :=
  OpenClaim.holds_of_cond 7 Tryz.f7 rfl rfl rfl rfl rfl rfl rfl ⟨rfl, rfl, rfl, rfl, rfl⟩ rfl rfl rfl rfl rfl (by kernel_rfl) Tryz.func7 (by kernel_rfl)
    (of_decide_eq_true (by kernel_rfl)) (by unfold Func.isWrapper; first | (rw [if_pos (by decide +kernel)]; kernel_rfl) | (rw [if_neg (by decide +kernel)]; exact ⟨rfl, rfl⟩))
    (fun os started H enc _ F => by rw [OpenClaim.pre_eq_preRow]; exact shakeTurns_lifted os started H enc F)
theorem shakeTurns_card : Rows.ShakeTurnsCardSaid :=
  Claim7.holds_tied_plain_at .later [] [.data, .data, .data, .data, .data] true (true, "8141a92188331a403378f5e6e9d458bf00cc60b68552ace8a9f0d116dff28290") false shakeTurns_holds (fun _ h => by cases h) (by kernel_rfl) (fun _ h => by cases h) shakeTurns_row_tie rfl ⟨rfl, rfl⟩ (by kernel_rfl) rfl
    (fun f fn hf hfn => by
      obtain rfl : f = 7 := Option.some.inj ((show Tryz.prog.funcNamed Tryz.f7.name = some 7 by kernel_rfl).symm.trans hf) |>.symm
      obtain rfl : fn = Tryz.f7 := (Option.some.inj (Tryz.func7.symm.trans hfn)).symm
      exact ⟨by kernel_rfl, fun j t ht => by
        rw [Tryz.params7] at ht
        have hm : t ∈ [3, 23, 23, 23] := by have h9 := Array.mem_of_getElem? ht; simpa using h9
        have hall : ([3, 23, 23, 23].all fun u => !Tryz.prog.wantsStandIn u) = true := by kernel_rfl
        exact (show Tryz.prog.wantsStandIn t = false by simpa using List.all_eq_true.1 hall t hm)⟩)
    (by kernel_rfl)
#print axioms shakeTurns_card
end Go.Proofs.YthljakcegoohlaaGreatDoor
