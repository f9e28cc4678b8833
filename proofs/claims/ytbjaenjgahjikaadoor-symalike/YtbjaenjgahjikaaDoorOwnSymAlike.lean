/- The card of signetkeep.SymAlike: for every text and all lists of raw numbers it returns true, and its arguments read as they did. -/
import Derived.Test.YtbjaenjgahjikaaDoorRows
import Derived.Test.YtbjaenjgahjikaaDoorTie
import Derived.Test.YtbjaenjgahjikaaDoorCards
import Derived.Test.YtbjaenjgahjikaaDoorKZ10
import Derived.Test.YtbjaenjgahjikaaDoorKZ5
import Derived.SevenTiedAt
import Derived.LaidMore
import Derived.Lay
import Derived.Stop.Joined
namespace Go.Proofs.YtbjaenjgahjikaaDoor
open Go.ChangeShapes Go.WideShapes Go.ChangeAt Go.RowKit

theorem symAlike_own : ownKnob Tryd.prog.godebug = none := by kernel_rfl
theorem symAlike_laid : laidOutB Tryd.prog = true := by kernel_rfl
theorem symAlike_und9 : Tryd.prog.underlying 9 = some (.string) := by kernel_rfl
theorem symAlike_und42 : Tryd.prog.underlying 42 = some (.slice 46) := by kernel_rfl
theorem symAlike_und46 : Tryd.prog.underlying 46 = some (.struct #[.mk "Kind" 3 0 false "" "" 0, .mk "A" 3 1 false "" "" 8, .mk "B" 3 2 false "" "" 16, .mk "Text" 9 3 false "" "" 24]) := by kernel_rfl
theorem symAlike_cel46 : Tryd.prog.cellsOf 46 = 4 := by kernel_rfl
theorem symAlike_und3 : Tryd.prog.underlying 3 = some (.int .i64) := by kernel_rfl
theorem symAlike_cel3 : Tryd.prog.cellsOf 3 = 1 := by kernel_rfl
theorem symAlike_cel9 : Tryd.prog.cellsOf 9 = 1 := by kernel_rfl
theorem symAlike_glob {W : World} (h : laidMetH Tryd.prog Rows.symAlikeRow.laid W) : MemR [(⟨1, arr .i64 160 sgf, 136⟩ : Blk)] W := by
  have hv := laid_metH (by kernel_rfl) h
  exact (memR_cons (laid_signet_blake_orders_rin (hv _ (List.mem_of_getElem? (i := 0) rfl))) memR_nil)

set_option maxRecDepth 100000 in
theorem symAlike_lifted (os : Os) (started : os.Started) (H : Type) (enc : TypeId × Value → H) :
    ReturnsInHanded {} Tryd.checked os 6 .any (fun w args => (Rows.symAlikeSpec.pre enc Tryd.prog Tryd.f6 Rows.symAlikeRow.domain false w args ∧ laidMetH Tryd.prog Rows.symAlikeRow.laid w) ∧ sizedMet enc Tryd.prog Tryd.f6 (OpenSpec.ofChange Rows.symAlikeSpec) false w args)
      (Rows.symAlikeSpec.post enc Tryd.prog Tryd.f6 false true false false) := by
  refine returnsInHanded_of_change_and (C := Tryd.checked) (X := fun w _ => laidMetH Tryd.prog Rows.symAlikeRow.laid w) (fun _ _ _ hh h => h.of_heap hh) symAlike_own started (by kernel_rfl) Tryd.func6
    (ChangeSpec.witness_shaped (enc := enc) (C := Tryd.checked) (os := os) (X := fun w _ => laidMetH Tryd.prog Rows.symAlikeRow.laid w) false (World.laidAll Tryd.prog os Rows.symAlikeRow.laid) #[.string ByteArray.empty, .slice none 0 0] 8 (World.laidAll_os _ _ _)
      (World.shaped_of_ZipB (by kernel_rfl) (by kernel_rfl)) (by kernel_rfl) (by kernel_rfl) (by kernel_rfl)
      (by rw [MakeChecks.laidMetH_plain _ _ _ (by kernel_rfl)]; exact laidMet_laidAll _ (by kernel_rfl) (by kernel_rfl))) ?_
  intro W base args ds gs before hval0 hW hc hwt hL _
  have hval : ∀ (j : Nat) t v, Tryd.f6.params[j]? = some t → args[j]? = some v → Value.okWide Tryd.prog W .any base t v := hval0
  have hW' := hW
  obtain ⟨p, q, hA0, hV, rfl, hfz, hnd⟩ := hW
  have hA : DataW.TrodAll enc Tryd.prog W 0 (fun _ => true) true Tryd.f6.params.toList args.toList ds p := hA0
  rw [Tryd.params6] at hA hval
  have hplt := DataW.TrodAll.lt hA
  obtain ⟨v0, v1, d0, d1, p0, p1, rfl, rfl, rfl, h0, h1⟩ := trodAll_two hA
  obtain ⟨rfl, rfl⟩ := trodVars_none hV
  have hk0 := h0
  have hk1 := h1
  obtain ⟨l0, rfl, hl0, hm0⟩ := open_str symAlike_und9 (hval 0 9 v0 rfl rfl) h0
  obtain ⟨x1, G1, hx1, hG1⟩ := rep_open1 [42, 46, 3, 9] (by kernel_rfl) (by decide) symAlike_und42 (hval 1 42 v1 rfl rfl) h1
  obtain ⟨rs1, hv1, hr1, hm1⟩ := open_raws symAlike_und42 symAlike_und46 symAlike_cel46 rfl rfl rfl rfl symAlike_und3 symAlike_und3 symAlike_und3 symAlike_und9 symAlike_cel3 symAlike_cel3 symAlike_cel3 symAlike_cel9 hx1
  clear hA0 hval0
  simp only [List.append_nil] at hW'
  refine ((symAlike_fn (G := G1) [DOR] l0 hl0 v1 rs1 (hv1.mono (fun x hx => List.mem_cons_of_mem _ hx)) hr1 (fun G l hb hl => dbegin9_fn (G := G) l hb (by omega)) (fun G has k n ch h v l _ hc _ hv hb hl => dkey9_fn (G := G) has k n ch h v l hv hb hc (by omega)) (fun G has k n ch h v l _ _ hh hv hb hl => dhash9_fn (G := G) has k n ch h v l hv hb hh (by omega)) (fun G has k n ch h v l _ hc hh hv hb hl => dboth9_fn (G := G) has k n ch h v l hv hb hc hh (by omega)) (fun G has k n ch h hc => dsplit9_fn (G := G) has k n ch h hc) (fun G k n ch h v l hok hh hv hb hl => sealP9 (G := G) k n ch h v l hv hb hok hl hh) (fun G k n ch h v l hok hh hv hb hl => openP9 (G := G) k n ch h v l hv hb hok hl hh) (fun G k n ch h v l hk hh hn hv _ hl => sealK9 (G := G) k n ch h v l hv hk hn hl hh) (fun G k n ch h v l hk hh hn hv hb h16 hl ho => openK9 (G := G) k n ch h v l hv hb hk hn h16 hl ho hh)) W (memR_app (symAlike_glob hL) hG1)).mono fun e W' ⟨he, hb⟩ => ?_
  subst he
  exact ⟨_, rfl, _, _, _, [], _, [], hW', trodAll_mk1 (shut_bool Tryd.underlying4 _), trodAll_mk2 (Below.trod symAlike_laid (by kernel_rfl) (of_decide_eq_true (by kernel_rfl)) hk0 hb (fun x hx => hplt x (by first | exact absurd hx List.not_mem_nil | simp [hx]))) (Below.trod symAlike_laid (by kernel_rfl) (of_decide_eq_true (by kernel_rfl)) hk1 hb (fun x hx => hplt x (by first | exact absurd hx List.not_mem_nil | simp [hx]))), rfl, hb.frame _, fun h => by cases h⟩

theorem symAlike_holds : Rows.SymAlikeSaid :=
  OpenClaim.holds_of_wide 6 Tryd.f6 rfl rfl rfl rfl rfl rfl rfl ⟨rfl, rfl, rfl, rfl, rfl⟩ rfl rfl rfl rfl rfl (by kernel_rfl) Tryd.func6 (by kernel_rfl)
    (of_decide_eq_true (by kernel_rfl)) (by unfold Func.isWrapper; first | (rw [if_pos (by decide +kernel)]; kernel_rfl) | (rw [if_neg (by decide +kernel)]; exact ⟨rfl, rfl⟩))
    (fun os started H enc _ => symAlike_lifted os started H enc)
theorem symAlike_card : Rows.SymAlikeCardSaid :=
  Claim7.holds_tied_plain_at .later [] [.data] true (true, "28be2905ef9130df1e2533220017785b20c1f2c594e50c9bc6b8e5ead9caa2c0") false symAlike_holds (fun _ h => by cases h) (by kernel_rfl) (fun _ h => by cases h) symAlike_row_tie rfl ⟨rfl, rfl⟩ (by kernel_rfl) rfl
    (fun f fn hf hfn => by
      obtain rfl : f = 6 := Option.some.inj ((show Tryd.prog.funcNamed Tryd.f6.name = some 6 by kernel_rfl).symm.trans hf) |>.symm
      obtain rfl : fn = Tryd.f6 := (Option.some.inj (Tryd.func6.symm.trans hfn)).symm
      exact ⟨by kernel_rfl, fun j t ht => by
        rw [Tryd.params6] at ht
        have hm : t ∈ [9, 42] := by have h9 := Array.mem_of_getElem? ht; simpa using h9
        have hall : ([9, 42].all fun u => !Tryd.prog.wantsStandIn u) = true := by kernel_rfl
        exact (show Tryd.prog.wantsStandIn t = false by simpa using List.all_eq_true.1 hall t hm)⟩)
    (by kernel_rfl)
#print axioms symAlike_card
end Go.Proofs.YtbjaenjgahjikaaDoor
