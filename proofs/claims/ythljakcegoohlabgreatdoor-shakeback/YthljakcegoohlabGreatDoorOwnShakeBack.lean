/- The card of signetkeep.ShakeBack: for all four keys and every text it returns true, and its arguments read as they did. -/
import Derived.Test.YthljakcegoohlabGreatDoorRows
import Derived.Test.YthljakcegoohlabGreatDoorTie
import Derived.Test.YthljakcegoohlabGreatDoorCards
import Derived.Test.YthljakcegoohlabGreatDoorKB13
import Derived.Test.YthljakcegoohlabGreatDoorKB14
import Derived.Test.YthljakcegoohlabGreatDoorKB7
import Derived.Test.YthljakcegoohlabGreatDoorKB6
import Derived.SevenTiedAt
import Derived.LaidMore
import Derived.Lay
import Derived.Stop.Joined
import Derived.Deep.DeepHandedRow
import Derived.Deep.DeepWitnessRowRef
namespace Go.Proofs.YthljakcegoohlabGreatDoor
open Go.ChangeShapes Go.WideShapes Go.ChangeAt Go.RowKit

theorem shakeBack_own : ownKnob Tryz.prog.godebug = none := by kernel_rfl
theorem shakeBack_laid : laidOutB Tryz.prog = true := by kernel_rfl
theorem shakeBack_und22 : Tryz.prog.underlying 22 = some (.array 32 5) := by kernel_rfl
theorem shakeBack_und5 : Tryz.prog.underlying 5 = some (.int .u8) := by kernel_rfl
theorem shakeBack_cel5 : Tryz.prog.cellsOf 5 = 1 := by kernel_rfl
theorem shakeBack_cel22 : Tryz.prog.cellsOf 22 = 32 := by kernel_rfl
theorem shakeBack_und9 : Tryz.prog.underlying 9 = some (.string) := by kernel_rfl
theorem shakeBack_glob {W : World} (h : laidMetH Tryz.prog Rows.shakeBackRow.laid W) : MemR [(⟨1, arr .i64 160 sgf, 190⟩ : Blk)] W := by
  have hv := laid_metH (by kernel_rfl) h
  exact (memR_cons (laid_signet_blake_orders_rin (hv _ (List.mem_of_getElem? (i := 0) rfl))) memR_nil)
theorem Fx.more9 {P : Program} {G G' : Mem} {f : FuncId} {args : Array Value} {S : Value → Mem → Mem → Prop} (h : Fx P G [] f args S) (hG : ∀ x ∈ G, x ∈ G') : Fx P G' [] f args S := fun w a b c _ => h w (fun x hx => a x (hG x hx)) b c (fun _ _ => by simp)
theorem shakeBack_all {G : Mem} (m : Int) (a b c d : Nat → Nat) (ha : B32 a) (hb : B32 b) (hc : B32 c) (hd : B32 d) (tx : List Nat) (htb : ∀ x ∈ tx, x < 256) : Fn Tryz.prog ((⟨1, arr .i64 160 sgf, 190⟩ : Blk) :: ([MLB m] ++ G)) 3 #[.agg (arr .u8 32 a), .agg (arr .u8 32 b), .agg (arr .u8 32 c), .agg (arr .u8 32 d), sv tx] (.bool true) := by
  refine shakeBack_fn List.mem_cons_self a b c d ha hb hc hd tx htb ?_
  have e := dp_n_ok (G := G) nmF m nmF_lt (by decide) (by decide +kernel) (by decide +kernel) (by decide +kernel)
  have e1 : midN nmF = nXF := by decide +kernel
  have e2 : wq nXF (ci []) 0 = [1] := by decide +kernel
  have e3 : wq nXF (ci []) 1 = [] := by decide +kernel
  have e4 : wt nXF (ci []) = [[1, 3, 2, 4], [2, 5]] := by decide +kernel
  rw [e1, e2, e3, e4] at e
  exact (e.more9 fun x hx => List.mem_cons_of_mem _ hx).imp fun v l1 nw ⟨h1, w', h2, h3⟩ => ⟨h1, w', h2, h3⟩

theorem shakeBack_laidm (os : Os) : laidMetH Tryz.prog Rows.shakeBackRow.laid ((World.laidAll Tryz.prog os Rows.shakeBackRow.laid).forCall (fun _ _ => 0) ⟨#[], #[.agg (arr .u8 32 fun _ => 0), .agg (arr .u8 32 fun _ => 0), .agg (arr .u8 32 fun _ => 0), .agg (arr .u8 32 fun _ => 0), .string ByteArray.empty], []⟩).memory := by
  rw [MakeChecks.laidMetH_plain _ _ _ (by kernel_rfl)]; exact laidMet_laidAll _ (by kernel_rfl) (by kernel_rfl)
set_option maxRecDepth 100000 in
set_option maxHeartbeats 4000000 in
theorem shakeBack_lifted (os : Os) (started : os.Started) (H : Type) (enc : TypeId × Value → H) (F : Stop.Interp) :
    ReturnsInHanded {} Tryz.checked os 3 .any ((OpenSpec.ofChange Rows.shakeBackSpec).preRow enc Tryz.prog Tryz.f3 Rows.shakeBackRow.domain false Rows.shakeBackRow.laid)
      (((OpenSpec.ofChange Rows.shakeBackSpec).at F).post enc Tryz.prog Tryz.f3 false true false false) := by
  refine returnsInHanded_of_row (C := Tryz.checked) (s := OpenSpec.ofChange Rows.shakeBackSpec) shakeBack_own started (by kernel_rfl) Tryz.func3
    (witness_row_atRef (enc := enc) (C := Tryz.checked) false (World.laidAll Tryz.prog os Rows.shakeBackRow.laid) #[.agg (arr .u8 32 fun _ => 0), .agg (arr .u8 32 fun _ => 0), .agg (arr .u8 32 fun _ => 0), .agg (arr .u8 32 fun _ => 0), .string ByteArray.empty] (World.laidAll_os _ _ _) (by kernel_rfl) (by kernel_rfl) (by kernel_rfl)
      (OpenSpec.preRow_of_cond 8 (show DataW.whole enc Tryz.prog ((World.laidAll Tryz.prog os Rows.shakeBackRow.laid).forCall (fun _ _ => 0) ⟨#[], #[.agg (arr .u8 32 fun _ => 0), .agg (arr .u8 32 fun _ => 0), .agg (arr .u8 32 fun _ => 0), .agg (arr .u8 32 fun _ => 0), .string ByteArray.empty], []⟩).memory Tryz.f3.params.toList Rows.shakeBackSpec.vars false (#[.agg (arr .u8 32 fun _ => 0), .agg (arr .u8 32 fun _ => 0), .agg (arr .u8 32 fun _ => 0), .agg (arr .u8 32 fun _ => 0), .string ByteArray.empty] : Array Value).toList 8 = some ([.agg [.lit (.int .u8 0), .lit (.int .u8 0), .lit (.int .u8 0), .lit (.int .u8 0), .lit (.int .u8 0), .lit (.int .u8 0), .lit (.int .u8 0), .lit (.int .u8 0), .lit (.int .u8 0), .lit (.int .u8 0), .lit (.int .u8 0), .lit (.int .u8 0), .lit (.int .u8 0), .lit (.int .u8 0), .lit (.int .u8 0), .lit (.int .u8 0), .lit (.int .u8 0), .lit (.int .u8 0), .lit (.int .u8 0), .lit (.int .u8 0), .lit (.int .u8 0), .lit (.int .u8 0), .lit (.int .u8 0), .lit (.int .u8 0), .lit (.int .u8 0), .lit (.int .u8 0), .lit (.int .u8 0), .lit (.int .u8 0), .lit (.int .u8 0), .lit (.int .u8 0), .lit (.int .u8 0), .lit (.int .u8 0)], .agg [.lit (.int .u8 0), .lit (.int .u8 0), .lit (.int .u8 0), .lit (.int .u8 0), .lit (.int .u8 0), .lit (.int .u8 0), .lit (.int .u8 0), .lit (.int .u8 0), .lit (.int .u8 0), .lit (.int .u8 0), .lit (.int .u8 0), .lit (.int .u8 0), .lit (.int .u8 0), .lit (.int .u8 0), .lit (.int .u8 0), .lit (.int .u8 0), .lit (.int .u8 0), .lit (.int .u8 0), .lit (.int .u8 0), .lit (.int .u8 0), .lit (.int .u8 0), .lit (.int .u8 0), .lit (.int .u8 0), .lit (.int .u8 0), .lit (.int .u8 0), .lit (.int .u8 0), .lit (.int .u8 0), .lit (.int .u8 0), .lit (.int .u8 0), .lit (.int .u8 0), .lit (.int .u8 0), .lit (.int .u8 0)], .agg [.lit (.int .u8 0), .lit (.int .u8 0), .lit (.int .u8 0), .lit (.int .u8 0), .lit (.int .u8 0), .lit (.int .u8 0), .lit (.int .u8 0), .lit (.int .u8 0), .lit (.int .u8 0), .lit (.int .u8 0), .lit (.int .u8 0), .lit (.int .u8 0), .lit (.int .u8 0), .lit (.int .u8 0), .lit (.int .u8 0), .lit (.int .u8 0), .lit (.int .u8 0), .lit (.int .u8 0), .lit (.int .u8 0), .lit (.int .u8 0), .lit (.int .u8 0), .lit (.int .u8 0), .lit (.int .u8 0), .lit (.int .u8 0), .lit (.int .u8 0), .lit (.int .u8 0), .lit (.int .u8 0), .lit (.int .u8 0), .lit (.int .u8 0), .lit (.int .u8 0), .lit (.int .u8 0), .lit (.int .u8 0)], .agg [.lit (.int .u8 0), .lit (.int .u8 0), .lit (.int .u8 0), .lit (.int .u8 0), .lit (.int .u8 0), .lit (.int .u8 0), .lit (.int .u8 0), .lit (.int .u8 0), .lit (.int .u8 0), .lit (.int .u8 0), .lit (.int .u8 0), .lit (.int .u8 0), .lit (.int .u8 0), .lit (.int .u8 0), .lit (.int .u8 0), .lit (.int .u8 0), .lit (.int .u8 0), .lit (.int .u8 0), .lit (.int .u8 0), .lit (.int .u8 0), .lit (.int .u8 0), .lit (.int .u8 0), .lit (.int .u8 0), .lit (.int .u8 0), .lit (.int .u8 0), .lit (.int .u8 0), .lit (.int .u8 0), .lit (.int .u8 0), .lit (.int .u8 0), .lit (.int .u8 0), .lit (.int .u8 0), .lit (.int .u8 0)], .lit (.string [])], [], []) by kernel_rfl) (by kernel_rfl) (fun k hk => by cases hk) (by kernel_rfl) (shakeBack_laidm os))) ?_
  intro W base args ds gs before hval0 hW _ hcond hwt hL hsh9 _
  have hval : ∀ (j : Nat) t v, Tryz.f3.params[j]? = some t → args[j]? = some v → Value.okWide Tryz.prog W .any base t v := hval0
  have hW' := hW
  obtain ⟨p, q, hA0, hV, rfl, hfz, hnd⟩ := hW
  have hA : DataW.TrodAll enc Tryz.prog W 0 (fun _ => true) true Tryz.f3.params.toList args.toList ds p := hA0
  rw [Tryz.params3] at hA hval
  have hplt := DataW.TrodAll.lt hA
  obtain ⟨v0, v1, v2, v3, v4, d0, d1, d2, d3, d4, p0, p1, p2, p3, p4, rfl, rfl, rfl, h0, h1, h2, h3, h4⟩ := trodAll_five hA
  obtain ⟨rfl, rfl⟩ := trodVars_none hV
  have hk0 := h0
  have hk1 := h1
  have hk2 := h2
  have hk3 := h3
  have hk4 := h4
  obtain ⟨f0, rfl, hf0, rfl⟩ := open_arr shakeBack_und22 shakeBack_und5 shakeBack_cel5 shakeBack_cel22 wf_u8 (hval 0 22 v0 rfl rfl) h0
  obtain ⟨f1, rfl, hf1, rfl⟩ := open_arr shakeBack_und22 shakeBack_und5 shakeBack_cel5 shakeBack_cel22 wf_u8 (hval 1 22 v1 rfl rfl) h1
  obtain ⟨f2, rfl, hf2, rfl⟩ := open_arr shakeBack_und22 shakeBack_und5 shakeBack_cel5 shakeBack_cel22 wf_u8 (hval 2 22 v2 rfl rfl) h2
  obtain ⟨f3, rfl, hf3, rfl⟩ := open_arr shakeBack_und22 shakeBack_und5 shakeBack_cel5 shakeBack_cel22 wf_u8 (hval 3 22 v3 rfl rfl) h3
  obtain ⟨l4, rfl, hl4, hm4⟩ := open_str shakeBack_und9 (hval 4 9 v4 rfl rfl) h4
  obtain ⟨m90, hM90⟩ := shape_int (t := 3) (zero := #[.int .i64 0]) hsh9 (g := 0) (by decide +kernel) (by kernel_rfl) rfl (by kernel_rfl) (by kernel_rfl) (by kernel_rfl)
  clear hA0 hval0
  simp only [List.append_nil] at hW'
  refine ((shakeBack_all (G := []) m90 f0 f1 f2 f3 hf0 hf1 hf2 hf3 l4 hl4) W (memR_app (shakeBack_glob hL) (memR_cons hM90 memR_nil))).mono fun e W' ⟨he, hb⟩ => ?_
  subst he
  exact ⟨_, rfl, _, _, _, [], _, [], hW', trodAll_mk1 (shut_bool Tryz.underlying4 _), trodAll_mk5 (Below.trod shakeBack_laid (by kernel_rfl) (of_decide_eq_true (by kernel_rfl)) hk0 hb (fun x hx => hplt x (by first | exact absurd hx List.not_mem_nil | simp [hx]))) (Below.trod shakeBack_laid (by kernel_rfl) (of_decide_eq_true (by kernel_rfl)) hk1 hb (fun x hx => hplt x (by first | exact absurd hx List.not_mem_nil | simp [hx]))) (Below.trod shakeBack_laid (by kernel_rfl) (of_decide_eq_true (by kernel_rfl)) hk2 hb (fun x hx => hplt x (by first | exact absurd hx List.not_mem_nil | simp [hx]))) (Below.trod shakeBack_laid (by kernel_rfl) (of_decide_eq_true (by kernel_rfl)) hk3 hb (fun x hx => hplt x (by first | exact absurd hx List.not_mem_nil | simp [hx]))) (Below.trod shakeBack_laid (by kernel_rfl) (of_decide_eq_true (by kernel_rfl)) hk4 hb (fun x hx => hplt x (by first | exact absurd hx List.not_mem_nil | simp [hx]))), rfl, hb.frame _, fun h => by cases h⟩

theorem shakeBack_holds : Rows.ShakeBackSaid :=
  OpenClaim.holds_of_cond 3 Tryz.f3 rfl rfl rfl rfl rfl rfl rfl ⟨rfl, rfl, rfl, rfl, rfl⟩ rfl rfl rfl rfl rfl (by kernel_rfl) Tryz.func3 (by kernel_rfl)
    (of_decide_eq_true (by kernel_rfl)) (by unfold Func.isWrapper; first | (rw [if_pos (by decide +kernel)]; kernel_rfl) | (rw [if_neg (by decide +kernel)]; exact ⟨rfl, rfl⟩))
    (fun os started H enc _ F => by rw [OpenClaim.pre_eq_preRow]; exact shakeBack_lifted os started H enc F)
theorem shakeBack_card : Rows.ShakeBackCardSaid :=
  Claim7.holds_tied_plain_at .later [] [.data] true (true, "26d97262fb59d334279010ca126fd6c3beeb07f0918cfaf3d37d7282cfbd5a97") false shakeBack_holds (fun _ h => by cases h) (by kernel_rfl) (fun _ h => by cases h) shakeBack_row_tie rfl ⟨rfl, rfl⟩ (by kernel_rfl) rfl
    (fun f fn hf hfn => by
      obtain rfl : f = 3 := Option.some.inj ((show Tryz.prog.funcNamed Tryz.f3.name = some 3 by kernel_rfl).symm.trans hf) |>.symm
      obtain rfl : fn = Tryz.f3 := (Option.some.inj (Tryz.func3.symm.trans hfn)).symm
      exact ⟨by kernel_rfl, fun j t ht => by
        rw [Tryz.params3] at ht
        have hm : t ∈ [22, 22, 22, 22, 9] := by have h9 := Array.mem_of_getElem? ht; simpa using h9
        have hall : ([22, 22, 22, 22, 9].all fun u => !Tryz.prog.wantsStandIn u) = true := by kernel_rfl
        exact (show Tryz.prog.wantsStandIn t = false by simpa using List.all_eq_true.1 hall t hm)⟩)
    (by kernel_rfl)
#print axioms shakeBack_card
end Go.Proofs.YthljakcegoohlabGreatDoor
