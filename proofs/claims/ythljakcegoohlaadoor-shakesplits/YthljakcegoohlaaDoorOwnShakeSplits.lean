/- The card of signetlaw.ShakeSplits: for every side of a handshake it returns true, and its argument reads as it did. -/
import Derived.Test.YthljakcegoohlaaDoorRows
import Derived.Test.YthljakcegoohlaaDoorTie
import Derived.Test.YthljakcegoohlaaDoorCards
import Derived.Test.YthljakcegoohlaaDoorKS5
import Derived.Test.YthljakcegoohlaaDoorKS3
import Derived.SevenTiedAt
import Derived.LaidMore
import Derived.Lay
import Derived.Stop.Joined
namespace Go.Proofs.YthljakcegoohlaaDoor
open Go.ChangeShapes Go.WideShapes Go.ChangeAt Go.RowKit

theorem shakeSplits_own : ownKnob Tryd.prog.godebug = none := by kernel_rfl
theorem shakeSplits_laid : laidOutB Tryd.prog = true := by kernel_rfl
set_option maxRecDepth 100000 in
theorem shakeSplits_cts36 : Tryd.prog.cellTypes Tryd.prog.depth 36 = some [9, 4, 22, 22, 22, 24, 4, 3, 4, 4, 5, 5, 5, 5, 5, 5, 5, 5, 5, 5, 5, 5, 5, 5, 5, 5, 5, 5, 5, 5, 5, 5, 5, 5, 5, 5, 5, 5, 5, 5, 5, 5, 29, 5, 5, 5, 5, 5, 5, 5, 5, 5, 5, 5, 5, 5, 5, 5, 5, 5, 5, 5, 5, 5, 5, 5, 5, 5, 5, 5, 5, 5, 5, 5, 5, 5, 5, 5, 5, 5, 5, 5, 5, 5, 5, 5, 5, 5, 5, 5, 5, 5, 5, 5, 5, 5, 5, 5, 5, 5, 5, 5, 5, 5, 5, 5, 5, 5, 5, 5, 5, 5, 5, 5, 5, 5, 5, 5, 5, 5, 5, 5, 5, 5, 5, 5, 5, 5, 5, 5, 5, 5, 5, 5, 5, 5, 5, 5, 5, 5, 5, 5, 5, 5, 5, 5, 5, 5, 5, 5, 5, 5, 5, 5, 5, 5, 5, 5, 5, 5, 5, 5, 5, 5, 5, 5, 5, 5, 5, 5, 5, 4, 5, 5, 5, 5, 5, 5, 5, 5, 5, 5, 5, 5, 5, 5, 5, 5, 5, 5, 5, 5, 5, 5, 5, 5, 5, 5, 5, 5, 5, 5, 5, 5, 4, 5, 5, 5, 5, 5, 5, 5, 5, 5, 5, 5, 5, 5, 5, 5, 5, 5, 5, 5, 5, 5, 5, 5, 5, 5, 5, 5, 5, 5, 5, 5, 5, 4, 34, 3] := by kernel_rfl
theorem shakeSplits_und36 : Tryd.prog.underlying 36 = some (.struct #[.mk "Pattern" 26 0 false "" "" 0, .mk "First" 4 6 false "" "" 120, .mk "Turn" 3 7 false "" "" 128, .mk "Dead" 4 8 false "" "" 136, .mk "Sym" 33 9 false "" "" 144, .mk "Own" 28 107 false "" "" 256, .mk "Fresh" 28 139 false "" "" 288, .mk "Has" 4 171 false "" "" 320, .mk "Their" 28 172 false "" "" 321, .mk "Knows" 4 204 false "" "" 353, .mk "Newest" 28 205 false "" "" 354, .mk "Saw" 4 237 false "" "" 386, .mk "Psks" 34 238 false "" "" 392, .mk "Used" 3 239 false "" "" 416]) := by kernel_rfl
theorem shakeSplits_cel36 : Tryd.prog.cellsOf 36 = 240 := by kernel_rfl
theorem shakeSplits_cel26 : Tryd.prog.cellsOf 26 = 6 := by kernel_rfl
theorem shakeSplits_cel34 : Tryd.prog.cellsOf 34 = 1 := by kernel_rfl
theorem shakeSplits_und26 : Tryd.prog.underlying 26 = some (.struct #[.mk "Base" 9 0 false "" "" 0, .mk "Late" 4 1 false "" "" 16, .mk "Psks" 22 2 false "" "" 24, .mk "Pre" 23 3 false "" "" 48, .mk "Turns" 24 5 false "" "" 96]) := by kernel_rfl
theorem shakeSplits_und9 : Tryd.prog.underlying 9 = some (.string) := by kernel_rfl
theorem shakeSplits_und4 : Tryd.prog.underlying 4 = some (.bool) := by kernel_rfl
theorem shakeSplits_und22 : Tryd.prog.underlying 22 = some (.slice 3) := by kernel_rfl
theorem shakeSplits_und23 : Tryd.prog.underlying 23 = some (.array 2 22) := by kernel_rfl
theorem shakeSplits_und24 : Tryd.prog.underlying 24 = some (.slice 22) := by kernel_rfl
theorem shakeSplits_und3 : Tryd.prog.underlying 3 = some (.int .i64) := by kernel_rfl
theorem shakeSplits_cel9 : Tryd.prog.cellsOf 9 = 1 := by kernel_rfl
theorem shakeSplits_cel4 : Tryd.prog.cellsOf 4 = 1 := by kernel_rfl
theorem shakeSplits_cel22 : Tryd.prog.cellsOf 22 = 1 := by kernel_rfl
theorem shakeSplits_cel23 : Tryd.prog.cellsOf 23 = 2 := by kernel_rfl
theorem shakeSplits_cel24 : Tryd.prog.cellsOf 24 = 1 := by kernel_rfl
theorem shakeSplits_cel3 : Tryd.prog.cellsOf 3 = 1 := by kernel_rfl
theorem shakeSplits_und34 : Tryd.prog.underlying 34 = some (.slice 28) := by kernel_rfl
theorem shakeSplits_und28 : Tryd.prog.underlying 28 = some (.array 32 5) := by kernel_rfl
theorem shakeSplits_und5 : Tryd.prog.underlying 5 = some (.int .u8) := by kernel_rfl
theorem shakeSplits_cel5 : Tryd.prog.cellsOf 5 = 1 := by kernel_rfl
theorem shakeSplits_cel28 : Tryd.prog.cellsOf 28 = 32 := by kernel_rfl
theorem shakeSplits_und29 : Tryd.prog.underlying 29 = some (.int .u64) := by kernel_rfl
def shakeSplits_wit0 : Value := .agg (cells 240 [pV (.string ByteArray.empty), pV (.bool false), pV (.slice none 0 0), pV (.slice none 0 0), pV (.slice none 0 0), pV (.slice none 0 0), pV (.bool false), pV (.int .i64 0), pV (.bool false), pV (.bool false), pI .u8 32 fun _ => 0, pV (.int .u64 0), pI .u8 32 fun _ => 0, pI .u8 32 fun _ => 0, pI .u8 32 fun _ => 0, pI .u8 32 fun _ => 0, pV (.bool false), pI .u8 32 fun _ => 0, pV (.bool false), pI .u8 32 fun _ => 0, pV (.bool false), pV (.slice none 0 0), pV (.int .i64 0)])
theorem shakeSplits_glob {W : World} (h : laidMetH Tryd.prog Rows.shakeSplitsRow.laid W) : MemR [(⟨0, arr .u32 8 ivf, 63⟩ : Blk), (⟨1, arr .i64 160 sgf, 91⟩ : Blk)] W := by
  have hv := laid_metH (by kernel_rfl) h
  exact (memR_cons (laid_signet_signetref_iv_rin (hv _ (List.mem_of_getElem? (i := 1) rfl))) (memR_cons (laid_signet_blake_orders_rin (hv _ (List.mem_of_getElem? (i := 0) rfl))) memR_nil))
theorem shakeSplits_all {G : Mem} (b : List Nat) (l : Bool) (vp v0 v1 vt : Value) (fi : Bool) (tn : Int) (dd : Bool) (y : SY) (r : RS) (ow : Nat → Nat) (vk : Value) (us : Int) (tvs : List Value) (hvt : Shows G 1 vt tvs.length tvs) (hy : okY y) : Fn Tryd.prog (IVB :: DOR :: G) 3 #[.agg (shC b l vp v0 v1 vt fi tn dd y ow r vk us)] (.bool true) := by
  have hv2 : Shows (IVB :: DOR :: G) 1 vt tvs.length tvs := hvt.mono fun x hx => List.mem_cons_of_mem _ (List.mem_cons_of_mem _ hx)
  cases hd : doneP dd tvs.length tn with
  | true => exact shakeSplits_ok List.mem_cons_self (List.mem_cons_of_mem _ List.mem_cons_self) b l vp v0 v1 vt fi tn dd y r ow vk us tvs hv2 hy hd
  | false => exact shakeSplits_no b l vp v0 v1 vt fi tn dd y r ow vk us tvs hv2 hd

set_option maxRecDepth 100000 in
set_option maxHeartbeats 4000000 in
theorem shakeSplits_lifted (os : Os) (started : os.Started) (H : Type) (enc : TypeId × Value → H) :
    ReturnsInHanded {} Tryd.checked os 3 .any (fun w args => (Rows.shakeSplitsSpec.pre enc Tryd.prog Tryd.f3 Rows.shakeSplitsRow.domain false w args ∧ laidMetH Tryd.prog Rows.shakeSplitsRow.laid w) ∧ sizedMet enc Tryd.prog Tryd.f3 (OpenSpec.ofChange Rows.shakeSplitsSpec) false w args)
      (Rows.shakeSplitsSpec.post enc Tryd.prog Tryd.f3 false true false false) := by
  refine returnsInHanded_of_change_and (C := Tryd.checked) (X := fun w _ => laidMetH Tryd.prog Rows.shakeSplitsRow.laid w) (fun _ _ _ hh h => h.of_heap hh) shakeSplits_own started (by kernel_rfl) Tryd.func3
    (ChangeSpec.witness_shaped (enc := enc) (C := Tryd.checked) (os := os) (X := fun w _ => laidMetH Tryd.prog Rows.shakeSplitsRow.laid w) false (World.laidAll Tryd.prog os Rows.shakeSplitsRow.laid) #[shakeSplits_wit0] 8 (World.laidAll_os _ _ _)
      (World.shaped_of_ZipB (by kernel_rfl) (by kernel_rfl)) (by kernel_rfl) (by kernel_rfl) (by kernel_rfl)
      (by rw [MakeChecks.laidMetH_plain _ _ _ (by kernel_rfl)]; exact laidMet_laidAll _ (by kernel_rfl) (by kernel_rfl))) ?_
  intro W base args ds gs before hval0 hW hc hwt hL _
  have hval : ∀ (j : Nat) t v, Tryd.f3.params[j]? = some t → args[j]? = some v → Value.okWide Tryd.prog W .any base t v := hval0
  have hW' := hW
  obtain ⟨p, q, hA0, hV, rfl, hfz, hnd⟩ := hW
  have hA : DataW.TrodAll enc Tryd.prog W 0 (fun _ => true) true Tryd.f3.params.toList args.toList ds p := hA0
  rw [Tryd.params3] at hA hval
  have hplt := DataW.TrodAll.lt hA
  obtain ⟨v0, d0, rfl, rfl, h0⟩ := trodAll_one hA
  obtain ⟨rfl, rfl⟩ := trodVars_none hV
  have hk0 := h0
  obtain ⟨x90, G0, hx90, hG0⟩ := rep_open [36, 26, 9, 4, 22, 3, 23, 24, 33, 31, 28, 5, 29, 34] (by kernel_rfl) (by decide) h0
  obtain ⟨cs0, rfl, hn0, hcl0⟩ := open_cells shakeSplits_und36 shakeSplits_cts36 shakeSplits_cel36 (hval 0 36 v0 rfl rfl)
  obtain ⟨d90, hl90, he90⟩ := rep_struct shakeSplits_und36 hx90
  have ea0 : Rep Tryd.prog G0 26 ((cs0.toList.drop 0).take (Tryd.prog.cellsOf 26)) d90 := he90 0 _ rfl
  rw [shakeSplits_cel26] at ea0
  have eb0 : Rep Tryd.prog G0 34 ((cs0.toList.drop 238).take (Tryd.prog.cellsOf 34)) d90 := he90 12 _ rfl
  rw [shakeSplits_cel34] at eb0
  obtain ⟨base0, late0, vp0, va0, vb0, vt0, ps0, pa0, pb0, tvs0, ts0, hpc0, hb0, hm0, hp0, hvt0, hLI0, hT0, hQ0⟩ := rep_pat shakeSplits_und26 shakeSplits_cel26 rfl rfl rfl rfl rfl rfl rfl rfl shakeSplits_und9 shakeSplits_und4 shakeSplits_und22 shakeSplits_und23 shakeSplits_und24 shakeSplits_und3 shakeSplits_cel9 shakeSplits_cel4 shakeSplits_cel22 shakeSplits_cel23 shakeSplits_cel24 shakeSplits_cel3 ea0
  obtain ⟨vk0, pk0, hkc0, hk90, hkb0, hkm0⟩ := rep_keys shakeSplits_und34 shakeSplits_und28 shakeSplits_und5 shakeSplits_cel5 shakeSplits_cel28 eb0
  obtain ⟨fi0, hfi0⟩ := seg_bool hcl0 6 shakeSplits_und4 (by decide)
  obtain ⟨dd0, hdd0⟩ := seg_bool hcl0 8 shakeSplits_und4 (by decide)
  obtain ⟨bh0, hbh0⟩ := seg_bool hcl0 9 shakeSplits_und4 (by decide)
  obtain ⟨bf0, hbf0⟩ := seg_bool hcl0 171 shakeSplits_und4 (by decide)
  obtain ⟨bk0, hbk0⟩ := seg_bool hcl0 204 shakeSplits_und4 (by decide)
  obtain ⟨bs0, hbs0⟩ := seg_bool hcl0 237 shakeSplits_und4 (by decide)
  obtain ⟨tn0, htn0, ztn0⟩ := seg_int hcl0 7 shakeSplits_und3 (by decide)
  obtain ⟨us0, hus0, zus0⟩ := seg_int hcl0 239 shakeSplits_und3 (by decide)
  obtain ⟨gk0, hgk0, lgk0⟩ := seg_nat hcl0 10 32 shakeSplits_und5 has_u8 (by decide)
  obtain ⟨gc0, hgc0, lgc0⟩ := seg_nat hcl0 43 32 shakeSplits_und5 has_u8 (by decide)
  obtain ⟨gh0, hgh0, lgh0⟩ := seg_nat hcl0 75 32 shakeSplits_und5 has_u8 (by decide)
  obtain ⟨go0, hgo0, lgo0⟩ := seg_nat hcl0 107 32 shakeSplits_und5 has_u8 (by decide)
  obtain ⟨gf0, hgf0, lgf0⟩ := seg_nat hcl0 139 32 shakeSplits_und5 has_u8 (by decide)
  obtain ⟨gt0, hgt0, lgt0⟩ := seg_nat hcl0 172 32 shakeSplits_und5 has_u8 (by decide)
  obtain ⟨gw0, hgw0, lgw0⟩ := seg_nat hcl0 205 32 shakeSplits_und5 has_u8 (by decide)
  obtain ⟨gn0, hgn0, lgn0⟩ := seg_nat hcl0 42 1 shakeSplits_und29 has_u64 (by decide)
  have hok0 : okY (bh0, gk0, gn0 0, gc0, gh0) := okY_mk lgk0 (lgn0 0 (by decide)) lgc0 lgh0
  have hn90 : cs0.size = 240 := hn0
  obtain rfl := cells_make (ps := shP base0 late0 vp0 va0 vb0 vt0 fi0 tn0 dd0 (bh0, gk0, gn0 0, gc0, gh0) go0 (gf0, bf0, gt0, bk0, gw0, bs0) vk0 us0) hn90 (by kernel_rfl) ⟨seg_six hpc0 0 (by decide) rfl, seg_six hpc0 1 (by decide) rfl, seg_six hpc0 2 (by decide) rfl, seg_six hpc0 3 (by decide) rfl, seg_six hpc0 4 (by decide) rfl, seg_six hpc0 5 (by decide) rfl, hfi0, htn0, hdd0, hbh0, hgk0, seg_u hgn0, hgc0, hgh0, hgo0, hgf0, hbf0, hgt0, hbk0, hgw0, hbs0, seg_cut hkc0, hus0, trivial⟩
  clear hA0 hval0
  simp only [List.append_nil] at hW'
  refine ((shakeSplits_all (G := G0) base0 late0 vp0 va0 vb0 vt0 fi0 tn0 dd0 (bh0, gk0, gn0 0, gc0, gh0) (gf0, bf0, gt0, bk0, gw0, bs0) go0 vk0 us0 tvs0 hvt0 hok0) W (memR_app (shakeSplits_glob hL) hG0)).mono fun e W' ⟨he, hb⟩ => ?_
  subst he
  exact ⟨_, rfl, _, _, _, [], _, [], hW', trodAll_mk1 (shut_bool Tryd.underlying4 _), trodAll_mk1 (Below.trod shakeSplits_laid (by kernel_rfl) (of_decide_eq_true (by kernel_rfl)) hk0 hb (fun x hx => hplt x (by first | exact absurd hx List.not_mem_nil | simp [hx]))), rfl, hb.frame _, fun h => by cases h⟩

theorem shakeSplits_holds : Rows.ShakeSplitsSaid :=
  OpenClaim.holds_of_wide 3 Tryd.f3 rfl rfl rfl rfl rfl rfl rfl ⟨rfl, rfl, rfl, rfl, rfl⟩ rfl rfl rfl rfl rfl (by kernel_rfl) Tryd.func3 (by kernel_rfl)
    (of_decide_eq_true (by kernel_rfl)) (by unfold Func.isWrapper; first | (rw [if_pos (by decide +kernel)]; kernel_rfl) | (rw [if_neg (by decide +kernel)]; exact ⟨rfl, rfl⟩))
    (fun os started H enc _ => shakeSplits_lifted os started H enc)
theorem shakeSplits_card : Rows.ShakeSplitsCardSaid :=
  Claim7.holds_tied_plain_at .later [] [.data, .data] true (true, "3d184374014969f2e79a1a531669c0da25945e769ad907c2ea883e2a98ec021a") false shakeSplits_holds (fun _ h => by cases h) (by kernel_rfl) (fun _ h => by cases h) shakeSplits_row_tie rfl ⟨rfl, rfl⟩ (by kernel_rfl) rfl
    (fun f fn hf hfn => by
      obtain rfl : f = 3 := Option.some.inj ((show Tryd.prog.funcNamed Tryd.f3.name = some 3 by kernel_rfl).symm.trans hf) |>.symm
      obtain rfl : fn = Tryd.f3 := (Option.some.inj (Tryd.func3.symm.trans hfn)).symm
      exact ⟨by kernel_rfl, fun j t ht => by
        rw [Tryd.params3] at ht
        have hm : t ∈ [36] := by have h9 := Array.mem_of_getElem? ht; simpa using h9
        have hall : ([36].all fun u => !Tryd.prog.wantsStandIn u) = true := by kernel_rfl
        exact (show Tryd.prog.wantsStandIn t = false by simpa using List.all_eq_true.1 hall t hm)⟩)
    (by kernel_rfl)
#print axioms shakeSplits_card
end Go.Proofs.YthljakcegoohlaaDoor
