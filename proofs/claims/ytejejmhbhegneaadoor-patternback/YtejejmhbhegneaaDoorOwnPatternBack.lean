/- The card of signetkeep.PatternBack: for all numbers it returns true, and its arguments read as they did. -/
import Derived.Test.YtejejmhbhegneaaDoorRows
import Derived.Test.YtejejmhbhegneaaDoorTie
import Derived.Test.YtejejmhbhegneaaDoorCards
import Derived.Test.YtejejmhbhegneaaDoorKW6
import Derived.Test.YtejejmhbhegneaaDoorKW8
import Derived.Test.YtejejmhbhegneaaDoorKW7
import Derived.Test.YtejejmhbhegneaaDoorKW4
import Derived.Test.YtejejmhbhegneaaDoorKW2
import Derived.SevenTiedAt
import Derived.LaidMore
import Derived.Lay
import Derived.Stop.Joined
import Derived.Deep.DeepHandedRow
import Derived.Deep.DeepWitnessRowRef
namespace Go.Proofs.YtejejmhbhegneaaDoor
open Go.ChangeShapes Go.WideShapes Go.ChangeAt Go.RowKit

theorem patternBack_own : ownKnob Tryd.prog.godebug = none := by kernel_rfl
theorem patternBack_laid : laidOutB Tryd.prog = true := by kernel_rfl
theorem patternBack_und3 : Tryd.prog.underlying 3 = some (.int .i64) := by kernel_rfl
theorem patternBack_glob {W : World} (h : laidMetH Tryd.prog Rows.patternBackRow.laid W) : MemR [(⟨0, (nm6.map sv).toArray, 57⟩ : Blk)] W := by
  have hv := laid_metH (by kernel_rfl) h
  exact (memR_cons (laid_signet_signetkeep_bases_rin (hv _ (List.mem_of_getElem? (i := 3) rfl))) memR_nil)
theorem pparse_zero {n a ds : List Nat} (h : pparse n = (0, a, ds)) : bad1 n = false ∧ ((ixp (midN n) = none ∧ a = midN n ∧ ds = []) ∨ ∃ i, ixp (midN n) = some i ∧ mods ((midN n).drop i ++ [43]) = some ds ∧ a = (midN n).take i) := by
  cases hb : bad1 n with
  | true => rw [pparse_bad hb] at h; cases h
  | false =>
    refine ⟨rfl, ?_⟩
    cases hi : ixp (midN n) with
    | none => rw [pparse_none hb hi] at h; injection h with _ h; injection h with h1 h2; exact .inl ⟨rfl, h1.symm, h2.symm⟩
    | some i =>
      cases hm : mods ((midN n).drop i ++ [43]) with
      | none => rw [pparse_form hb hi hm] at h; cases h
      | some d => rw [pparse_some hb hi hm] at h; injection h with _ h; injection h with h1 h2; exact .inr ⟨i, rfl, by rw [hm, h2], h1.symm⟩
theorem patternBack_all {G : Mem} (m : Int) (zn zm : Int) : Fn Tryd.prog ((⟨0, (nm6.map sv).toArray, 57⟩ : Blk) :: ([MLB m] ++ G)) 6 #[.int .i64 zn, .int .i64 zm] (.bool true) := by
  refine patternBackI_fn [MLB m] zn zm (fun G v l ps hl hz hv he => ?_) (fun G b l vp va vb vt tv p q0 q1 t hb hvt hL hp hz => ?_) (fun G s a ds hs hz hp he => ?_) (fun G b l vp va vb vt tv p q0 q1 t hb hvt hL hz => ?_)
  · exact dwith_ok l v ps hl hv (by omega) he
  · have hza : t.length ≤ 9223372036854775807 ∧ ∀ x ∈ p :: q0 :: q1 :: t, x.length ≤ 9223372036854775807 := ⟨by omega, fun x hx => by have := hz.2 x hx; omega⟩
    by_cases h0 : (pwith b p).1 = 0
    · cases hs : sameP b b l (decide (b = nXF)) p p q0 (ci (wq b p 0)) q1 (ci (wq b p 1)) t ((wt b p).map ci) with
      | true => rw [pshow_ok h0 hs]; exact dshow_ok b l vp va vb vt tv p q0 q1 t hb hvt hL hza (by omega) h0 hs
      | false => rw [pshow_form h0 hs]; exact dshow_form b l vp va vb vt tv p q0 q1 t hb hvt hL hza (by omega) h0 hs
    · rw [pshow_err rfl h0]; exact dshow_err b l vp va vb vt tv p q0 q1 t hb hvt hL (by omega) _ rfl h0
  · obtain ⟨hb, hc⟩ := pparse_zero hp
    rcases hc with ⟨hi, rfl, rfl⟩ | ⟨i, hi, hm, rfl⟩
    · exact dp_n_ok (G := G) s m hs (by omega) hb hi he
    · exact dp_p_ok (G := G) s m hs (by omega) hb i hi ds ((mods_pieces ((midN s).drop i).length ((midN s).drop i) (Nat.le_refl _)).symm.trans hm) he
  · exact chk_all b l vp va vb vt tv q0 q1 t hvt (li_tail hL)

theorem patternBack_laidm (os : Os) : laidMetH Tryd.prog Rows.patternBackRow.laid ((World.laidAll Tryd.prog os Rows.patternBackRow.laid).forCall (fun _ _ => 0) ⟨#[], #[.int .i64 0, .int .i64 0], []⟩).memory := by
  rw [MakeChecks.laidMetH_plain _ _ _ (by kernel_rfl)]; exact laidMet_laidAll _ (by kernel_rfl) (by kernel_rfl)
set_option maxRecDepth 100000 in
theorem patternBack_lifted (os : Os) (started : os.Started) (H : Type) (enc : TypeId × Value → H) (F : Stop.Interp) :
    ReturnsInHanded {} Tryd.checked os 6 .any ((OpenSpec.ofChange Rows.patternBackSpec).preRow enc Tryd.prog Tryd.f6 Rows.patternBackRow.domain false Rows.patternBackRow.laid)
      (((OpenSpec.ofChange Rows.patternBackSpec).at F).post enc Tryd.prog Tryd.f6 false true false false) := by
  refine returnsInHanded_of_row (C := Tryd.checked) (s := OpenSpec.ofChange Rows.patternBackSpec) patternBack_own started (by kernel_rfl) Tryd.func6
    (witness_row_atRef (enc := enc) (C := Tryd.checked) false (World.laidAll Tryd.prog os Rows.patternBackRow.laid) #[.int .i64 0, .int .i64 0] (World.laidAll_os _ _ _) (by kernel_rfl) (by kernel_rfl) (by kernel_rfl)
      (OpenSpec.preRow_of_cond 8 (show DataW.whole enc Tryd.prog ((World.laidAll Tryd.prog os Rows.patternBackRow.laid).forCall (fun _ _ => 0) ⟨#[], #[.int .i64 0, .int .i64 0], []⟩).memory Tryd.f6.params.toList Rows.patternBackSpec.vars false (#[.int .i64 0, .int .i64 0] : Array Value).toList 8 = some ([.lit (.int .i64 0), .lit (.int .i64 0)], [], []) by kernel_rfl) (by kernel_rfl) (fun k hk => by cases hk) (by kernel_rfl) (patternBack_laidm os))) ?_
  intro W base args ds gs before hval0 hW _ hcond hwt hL hsh9 _
  have hval : ∀ (j : Nat) t v, Tryd.f6.params[j]? = some t → args[j]? = some v → Value.okWide Tryd.prog W .any base t v := hval0
  have hW' := hW
  obtain ⟨p, q, hA0, hV, rfl, hfz, hnd⟩ := hW
  have hA : DataW.TrodAll enc Tryd.prog W 0 (fun _ => true) true Tryd.f6.params.toList args.toList ds p := hA0
  rw [Tryd.params6] at hA hval
  have hplt := DataW.TrodAll.lt hA
  obtain ⟨v0, v1, d0, d1, p0, p1, rfl, rfl, rfl, h0, h1⟩ := trodAll_two hA
  obtain ⟨rfl, rfl⟩ := trodVars_none hV
  have hk0 := h0
  have hk1 := h1
  obtain ⟨z0, rfl, rfl, rfl, wf0⟩ := open_int patternBack_und3 (hval 0 3 v0 rfl rfl) h0
  obtain ⟨z1, rfl, rfl, rfl, wf1⟩ := open_int patternBack_und3 (hval 1 3 v1 rfl rfl) h1
  obtain ⟨m90, hM90⟩ := shape_int (t := 3) (zero := #[.int .i64 0]) hsh9 (g := 2) (by decide +kernel) (by kernel_rfl) rfl (by kernel_rfl) (by kernel_rfl) (by kernel_rfl)
  clear hA0 hval0
  simp only [List.append_nil] at hW'
  refine ((patternBack_all (G := []) m90 z0 z1) W (memR_app (patternBack_glob hL) (memR_cons hM90 memR_nil))).mono fun e W' ⟨he, hb⟩ => ?_
  subst he
  exact ⟨_, rfl, _, _, _, [], _, [], hW', trodAll_mk1 (shut_bool Tryd.underlying4 _), trodAll_mk2 (Below.trod patternBack_laid (by kernel_rfl) (of_decide_eq_true (by kernel_rfl)) hk0 hb (fun x hx => hplt x (by first | exact absurd hx List.not_mem_nil | simp [hx]))) (Below.trod patternBack_laid (by kernel_rfl) (of_decide_eq_true (by kernel_rfl)) hk1 hb (fun x hx => hplt x (by first | exact absurd hx List.not_mem_nil | simp [hx]))), rfl, hb.frame _, fun h => by cases h⟩

theorem patternBack_holds : Rows.PatternBackSaid :=
  OpenClaim.holds_of_cond 6 Tryd.f6 rfl rfl rfl rfl rfl rfl rfl ⟨rfl, rfl, rfl, rfl, rfl⟩ rfl rfl rfl rfl rfl (by kernel_rfl) Tryd.func6 (by kernel_rfl)
    (of_decide_eq_true (by kernel_rfl)) (by unfold Func.isWrapper; first | (rw [if_pos (by decide +kernel)]; kernel_rfl) | (rw [if_neg (by decide +kernel)]; exact ⟨rfl, rfl⟩))
    (fun os started H enc _ F => by rw [OpenClaim.pre_eq_preRow]; exact patternBack_lifted os started H enc F)
theorem patternBack_card : Rows.PatternBackCardSaid :=
  Claim7.holds_tied_plain_at .later [] [.data, .data, .data, .data] true (true, "abcc41a5866173744392233e0a89f17f8a56ebd04b4e5f7859af495e89c627a0") false patternBack_holds (fun _ h => by cases h) (by kernel_rfl) (fun _ h => by cases h) patternBack_row_tie rfl ⟨rfl, rfl⟩ (by kernel_rfl) rfl
    (fun f fn hf hfn => by
      obtain rfl : f = 6 := Option.some.inj ((show Tryd.prog.funcNamed Tryd.f6.name = some 6 by kernel_rfl).symm.trans hf) |>.symm
      obtain rfl : fn = Tryd.f6 := (Option.some.inj (Tryd.func6.symm.trans hfn)).symm
      exact ⟨by kernel_rfl, fun j t ht => by
        rw [Tryd.params6] at ht
        have hm : t ∈ [3, 3] := by have h9 := Array.mem_of_getElem? ht; simpa using h9
        have hall : ([3, 3].all fun u => !Tryd.prog.wantsStandIn u) = true := by kernel_rfl
        exact (show Tryd.prog.wantsStandIn t = false by simpa using List.all_eq_true.1 hall t hm)⟩)
    (by kernel_rfl)
#print axioms patternBack_card
end Go.Proofs.YtejejmhbhegneaaDoor
