/- The card of signetlaw.BlakeEnds: for every state of a sum it returns true, and its argument reads as it did. -/
import Derived.Test.YtlaebpebgjaehaaDoorRows
import Derived.Test.YtlaebpebgjaehaaDoorTie
import Derived.Test.YtlaebpebgjaehaaDoorCards
import Derived.Test.YtlaebpebgjaehaaDoorK7
import Derived.Test.YtlaebpebgjaehaaDoorK8
import Derived.SevenTiedAt
import Derived.LaidMore
import Derived.Lay
import Derived.Stop.Joined
namespace Go.Proofs.YtlaebpebgjaehaaDoor
open Go.ChangeShapes Go.WideShapes Go.ChangeAt Go.RowKit

theorem blakeEnds_own : ownKnob Tryd.prog.godebug = none := by kernel_rfl
theorem blakeEnds_laid : laidOutB Tryd.prog = true := by kernel_rfl
theorem blakeEnds_cts26 : Tryd.prog.cellTypes Tryd.prog.depth 26 = some [22, 22, 22, 22, 22, 22, 22, 22, 5, 5, 5, 5, 5, 5, 5, 5, 5, 5, 5, 5, 5, 5, 5, 5, 5, 5, 5, 5, 5, 5, 5, 5, 5, 5, 5, 5, 5, 5, 5, 5, 5, 5, 5, 5, 5, 5, 5, 5, 5, 5, 5, 5, 5, 5, 5, 5, 5, 5, 5, 5, 5, 5, 5, 5, 5, 5, 5, 5, 5, 5, 5, 5, 3, 3] := by kernel_rfl
theorem blakeEnds_und26 : Tryd.prog.underlying 26 = some (.struct #[.mk "H" 23 0 false "" "" 0, .mk "Held" 24 8 false "" "" 32, .mk "N" 3 72 false "" "" 96, .mk "Len" 3 73 false "" "" 104]) := by kernel_rfl
theorem blakeEnds_cel26 : Tryd.prog.cellsOf 26 = 74 := by kernel_rfl
theorem blakeEnds_und22 : Tryd.prog.underlying 22 = some (.int .u32) := by kernel_rfl
theorem blakeEnds_und5 : Tryd.prog.underlying 5 = some (.int .u8) := by kernel_rfl
theorem blakeEnds_und3 : Tryd.prog.underlying 3 = some (.int .i64) := by kernel_rfl
theorem blakeEnds_glob {W : World} (h : laidMetH Tryd.prog Rows.blakeEndsRow.laid W) : MemR [(⟨0, arr .u32 8 ivf, 23⟩ : Blk), (⟨1, arr .i64 160 sgf, 66⟩ : Blk)] W := by
  have hv := laid_metH (by kernel_rfl) h
  exact (memR_cons (laid_signet_signetref_iv_rin (hv _ (List.mem_of_getElem? (i := 1) rfl))) (memR_cons (laid_signet_blake_orders_rin (hv _ (List.mem_of_getElem? (i := 0) rfl))) memR_nil))
theorem blakeEnds_all {G : Mem} (h d : Nat → Nat) (n ln : Int) (hd : ∀ j, j < 64 → d j < 256) : Fn Tryd.prog (IVB :: DOR :: G) 4 #[.agg (cells 74 [pI .u32 8 h, pI .u8 64 d, pV (.int .i64 n), pV (.int .i64 ln)])] (.bool true) := by
  have bad : Fn Tryd.prog (IVB :: DOR :: G) 20 #[.agg (cells 74 [pI .u32 8 h, pI .u8 64 d, pV (.int .i64 n), pV (.int .i64 ln)])] (.bool true) → Fn Tryd.prog (DOR :: G) 18 #[.agg (cells 74 [pI .u32 8 h, pI .u8 64 d, pV (.int .i64 n), pV (.int .i64 ln)])] (.bool false) → Fn Tryd.prog (IVB :: DOR :: G) 4 #[.agg (cells 74 [pI .u32 8 h, pI .u8 64 d, pV (.int .i64 n), pV (.int .i64 ln)])] (.bool true) := fun hB hM => blakeEnds_fn h d n ln _ 9 ((dend6_bad h d n ln hM).more (fun x hx => List.mem_cons_of_mem _ hx)) (hended_bad h d n ln hB)
  by_cases h0 : n < 0
  · exact bad (badHash_0 h d n ln h0) (dmay_bad h d n ln (by omega))
  by_cases h1 : 64 < n
  · exact bad (badHash_1 h d n ln h1) (dmay_bad h d n ln (by omega))
  by_cases h2 : ln < 0
  · exact bad (badHash_2 h d n ln (by omega) (by omega) h2) (dmay_bad h d n ln (by omega))
  by_cases h3 : 1073741824 < ln
  · exact bad (badHash_3 h d n ln (by omega) (by omega) h3) (dmay_bad h d n ln (by omega))
  obtain ⟨n, rfl⟩ : ∃ k : Nat, n = k := ⟨n.toNat, by omega⟩
  obtain ⟨ln, rfl⟩ : ∃ k : Nat, ln = k := ⟨ln.toNat, by omega⟩
  have hb := badHash_ok (G := IVB :: DOR :: G) h d n ln (by omega) (by omega)
  have hm := dmay_fn (G := DOR :: G) h d n ln (by omega) (by omega)
  cases hok : okB n ln d with
  | false => rw [hok] at hb hm; exact bad hb hm
  | true => exact blakeEnds_fn h d n ln _ 0 ((dend6_ok h d n ln hd (by omega) (by omega) hok).more (fun x hx => List.mem_cons_of_mem _ hx)) (hended_ok h d n ln hd (by omega) hok)

set_option maxRecDepth 100000 in
theorem blakeEnds_lifted (os : Os) (started : os.Started) (H : Type) (enc : TypeId × Value → H) :
    ReturnsInHanded {} Tryd.checked os 4 .any (fun w args => (Rows.blakeEndsSpec.pre enc Tryd.prog Tryd.f4 Rows.blakeEndsRow.domain false w args ∧ laidMetH Tryd.prog Rows.blakeEndsRow.laid w) ∧ sizedMet enc Tryd.prog Tryd.f4 (OpenSpec.ofChange Rows.blakeEndsSpec) false w args)
      (Rows.blakeEndsSpec.post enc Tryd.prog Tryd.f4 false true false false) := by
  refine returnsInHanded_of_change_and (C := Tryd.checked) (X := fun w _ => laidMetH Tryd.prog Rows.blakeEndsRow.laid w) (fun _ _ _ hh h => h.of_heap hh) blakeEnds_own started (by kernel_rfl) Tryd.func4
    (ChangeSpec.witness_shaped (enc := enc) (C := Tryd.checked) (os := os) (X := fun w _ => laidMetH Tryd.prog Rows.blakeEndsRow.laid w) false (World.laidAll Tryd.prog os Rows.blakeEndsRow.laid) #[.agg (cells 74 [pI .u32 8 fun _ => 0, pI .u8 64 fun _ => 0, pV (.int .i64 0), pV (.int .i64 0)])] 8 (World.laidAll_os _ _ _)
      (World.shaped_of_ZipB (by kernel_rfl) (by kernel_rfl)) (by kernel_rfl) (by kernel_rfl) (by kernel_rfl)
      (by rw [MakeChecks.laidMetH_plain _ _ _ (by kernel_rfl)]; exact laidMet_laidAll _ (by kernel_rfl) (by kernel_rfl))) ?_
  intro W base args ds gs before hval0 hW hc hwt hL _
  have hval : ∀ (j : Nat) t v, Tryd.f4.params[j]? = some t → args[j]? = some v → Value.okWide Tryd.prog W .any base t v := hval0
  have hW' := hW
  obtain ⟨p, q, hA0, hV, rfl, hfz, hnd⟩ := hW
  have hA : DataW.TrodAll enc Tryd.prog W 0 (fun _ => true) true Tryd.f4.params.toList args.toList ds p := hA0
  rw [Tryd.params4] at hA hval
  have hplt := DataW.TrodAll.lt hA
  obtain ⟨v0, d0, rfl, rfl, h0⟩ := trodAll_one hA
  obtain ⟨rfl, rfl⟩ := trodVars_none hV
  have hk0 := h0
  obtain ⟨cs0, rfl, hn0, hcl0⟩ := open_cells blakeEnds_und26 blakeEnds_cts26 blakeEnds_cel26 (hval 0 26 v0 rfl rfl)
  obtain ⟨g0_0, hq0_0, hg0_0⟩ := seg_nat hcl0 0 8 blakeEnds_und22 has_u32 (by decide)
  obtain ⟨g0_1, hq0_1, hg0_1⟩ := seg_nat hcl0 8 64 blakeEnds_und5 has_u8 (by decide)
  obtain ⟨z0_2, hq0_2, hz0_2⟩ := seg_int hcl0 72 blakeEnds_und3 (by decide)
  obtain ⟨z0_3, hq0_3, hz0_3⟩ := seg_int hcl0 73 blakeEnds_und3 (by decide)
  obtain rfl := cells_make (ps := [pI .u32 8 g0_0, pI .u8 64 g0_1, pV (.int .i64 z0_2), pV (.int .i64 z0_3)]) hn0 rfl ⟨hq0_0, hq0_1, hq0_2, hq0_3, trivial⟩
  clear hA0 hval0
  simp only [List.append_nil] at hW'
  refine ((blakeEnds_all (G := []) g0_0 g0_1 z0_2 z0_3 hg0_1) W (memR_app (blakeEnds_glob hL) memR_nil)).mono fun e W' ⟨he, hb⟩ => ?_
  subst he
  exact ⟨_, rfl, _, _, _, [], _, [], hW', trodAll_mk1 (shut_bool Tryd.underlying4 _), trodAll_mk1 (Below.trod blakeEnds_laid (by kernel_rfl) (of_decide_eq_true (by kernel_rfl)) hk0 hb (fun x hx => hplt x (by first | exact absurd hx List.not_mem_nil | simp [hx]))), rfl, hb.frame _, fun h => by cases h⟩

theorem blakeEnds_holds : Rows.BlakeEndsSaid :=
  OpenClaim.holds_of_wide 4 Tryd.f4 rfl rfl rfl rfl rfl rfl rfl ⟨rfl, rfl, rfl, rfl, rfl⟩ rfl rfl rfl rfl rfl (by kernel_rfl) Tryd.func4 (by kernel_rfl)
    (of_decide_eq_true (by kernel_rfl)) (by unfold Func.isWrapper; first | (rw [if_pos (by decide +kernel)]; kernel_rfl) | (rw [if_neg (by decide +kernel)]; exact ⟨rfl, rfl⟩))
    (fun os started H enc _ => blakeEnds_lifted os started H enc)
theorem blakeEnds_card : Rows.BlakeEndsCardSaid :=
  Claim7.holds_tied_plain_at .later [] [.data, .data] true (true, "68b53798bdfd9ffbe31fde81cc301b91cf15c239a3c07d02bb0a466bec2418c5") false blakeEnds_holds (fun _ h => by cases h) (by kernel_rfl) (fun _ h => by cases h) blakeEnds_row_tie rfl ⟨rfl, rfl⟩ (by kernel_rfl) rfl
    (fun f fn hf hfn => by
      obtain rfl : f = 4 := Option.some.inj ((show Tryd.prog.funcNamed Tryd.f4.name = some 4 by kernel_rfl).symm.trans hf) |>.symm
      obtain rfl : fn = Tryd.f4 := (Option.some.inj (Tryd.func4.symm.trans hfn)).symm
      exact ⟨by kernel_rfl, fun j t ht => by
        rw [Tryd.params4] at ht
        have hm : t ∈ [26] := by have h9 := Array.mem_of_getElem? ht; simpa using h9
        have hall : ([26].all fun u => !Tryd.prog.wantsStandIn u) = true := by kernel_rfl
        exact (show Tryd.prog.wantsStandIn t = false by simpa using List.all_eq_true.1 hall t hm)⟩)
    (by kernel_rfl)
#print axioms blakeEnds_card
end Go.Proofs.YtlaebpebgjaehaaDoor
