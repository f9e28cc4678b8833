/- The second form of the card of signetlaw.SymBegins: for a name and a symmetric state, of at most 1048576 values in all, it returns true, and its arguments read as they did. -/
import Derived.Test.YtbjaenjgahjikaaDoorRows
import Derived.Test.YtbjaenjgahjikaaDoorTie
import Derived.Test.YtbjaenjgahjikaaDoorCards
import Derived.Test.YtbjaenjgahjikaaDoorKZ10
import Derived.Test.YtbjaenjgahjikaaDoorKZ5
import Derived.Test.YtbjaenjgahjikaaDoorKZ4
import Derived.SevenTiedAt
import Derived.LaidMore
import Derived.Lay
import Derived.Stop.Joined
import Derived.Deep.DeepHandedRow
namespace Go.Proofs.YtbjaenjgahjikaaDoor
open Go.ChangeShapes Go.WideShapes Go.ChangeAt Go.RowKit

theorem symBegins_own : ownKnob Tryd.prog.godebug = none := by kernel_rfl
theorem symBegins_laid : laidOutB Tryd.prog = true := by kernel_rfl
theorem symBegins_und9 : Tryd.prog.underlying 9 = some (.string) := by kernel_rfl
theorem symBegins_cts28 : Tryd.prog.cellTypes Tryd.prog.depth 28 = some [4, 5, 5, 5, 5, 5, 5, 5, 5, 5, 5, 5, 5, 5, 5, 5, 5, 5, 5, 5, 5, 5, 5, 5, 5, 5, 5, 5, 5, 5, 5, 5, 5, 24, 5, 5, 5, 5, 5, 5, 5, 5, 5, 5, 5, 5, 5, 5, 5, 5, 5, 5, 5, 5, 5, 5, 5, 5, 5, 5, 5, 5, 5, 5, 5, 5, 5, 5, 5, 5, 5, 5, 5, 5, 5, 5, 5, 5, 5, 5, 5, 5, 5, 5, 5, 5, 5, 5, 5, 5, 5, 5, 5, 5, 5, 5, 5, 5] := by kernel_rfl
theorem symBegins_und28 : Tryd.prog.underlying 28 = some (.struct #[.mk "Cipher" 26 0 false "" "" 0, .mk "Chain" 23 34 false "" "" 48, .mk "Hash" 23 66 false "" "" 80]) := by kernel_rfl
theorem symBegins_cel28 : Tryd.prog.cellsOf 28 = 98 := by kernel_rfl
theorem symBegins_und4 : Tryd.prog.underlying 4 = some (.bool) := by kernel_rfl
theorem symBegins_und5 : Tryd.prog.underlying 5 = some (.int .u8) := by kernel_rfl
theorem symBegins_und24 : Tryd.prog.underlying 24 = some (.int .u64) := by kernel_rfl
theorem symBegins_glob {W : World} (h : laidMetH Tryd.prog Rows.symBeginsUptoRow.laid W) : MemR [(⟨0, arr .u32 8 ivf, 64⟩ : Blk), (⟨1, arr .i64 160 sgf, 136⟩ : Blk)] W := by
  have hv := laid_metH (by kernel_rfl) h
  exact (memR_cons (laid_signet_signetref_iv_rin (hv _ (List.mem_of_getElem? (i := 1) rfl))) (memR_cons (laid_signet_blake_orders_rin (hv _ (List.mem_of_getElem? (i := 0) rfl))) memR_nil))
theorem symBegins_all {G : Mem} (l : List Nat) (hb : ∀ b ∈ l, b < 256) (hl : l.length ≤ 1048576) (b : Bool) (k g ch h : Nat → Nat) (hc : ∀ j, j < 32 → ch j < 256) : Fn Tryd.prog (IVB :: DOR :: G) 3 #[sv l, .agg (cells 98 [pV (.bool b), pI .u8 32 k, pI .u64 1 g, pI .u8 32 ch, pI .u8 32 h])] (.bool true) := by
  rw [SV_open]
  obtain ⟨n, hn9⟩ : ∃ n, n = g 0 := ⟨_, rfl⟩
  rw [← hn9]
  have hB2 : Fn Tryd.prog (IVB :: DOR :: G) 9 #[sv l] (.agg (cells 98 [pV (.bool false), pI .u8 32 (fun _ => 0), pV (.int .u64 0), pI .u8 32 (sbeg l), pI .u8 32 (sbeg l)])) := by
    by_cases h9 : 32 < l.length
    · exact symBegun_long (G := DOR :: G) l hb h9 (by omega)
    · exact symBegun_short (G := DOR :: G) l hb h9
  exact symBegins_fn l b k n ch h (sbeg l) (kA ch []) (kB ch []) ((dbegin9_fn (G := G) l hb (by omega)).more (fun _ hx => List.mem_cons_of_mem _ hx)) hB2 ((dsplit9_fn (G := G) b k n ch h hc).more (fun _ hx => List.mem_cons_of_mem _ hx)) (symSplit_fn (G := DOR :: G) b k n ch h hc)

theorem symBegins_laidm (os : Os) : laidMetH Tryd.prog Rows.symBeginsUptoRow.laid ((World.laidAll Tryd.prog os Rows.symBeginsUptoRow.laid).forCall (fun _ _ => 0) ⟨#[], #[.string ByteArray.empty, .agg (cells 98 [pV (.bool false), pI .u8 32 fun _ => 0, pI .u64 1 fun _ => 0, pI .u8 32 fun _ => 0, pI .u8 32 fun _ => 0])], []⟩).memory := by
  rw [MakeChecks.laidMetH_plain _ _ _ (by kernel_rfl)]; exact laidMet_laidAll _ (by kernel_rfl) (by kernel_rfl)
set_option maxRecDepth 100000 in
theorem symBegins_lifted (os : Os) (started : os.Started) (H : Type) (enc : TypeId × Value → H) (F : Stop.Interp) :
    ReturnsInHanded {} Tryd.checked os 3 .any ((Rows.OpenSpec.upto Rows.symBeginsSpec).preRow enc Tryd.prog Tryd.f3 Rows.symBeginsUptoRow.domain false Rows.symBeginsUptoRow.laid)
      (((Rows.OpenSpec.upto Rows.symBeginsSpec).at F).post enc Tryd.prog Tryd.f3 false true false false) := by
  refine returnsInHanded_of_row (C := Tryd.checked) (s := Rows.OpenSpec.upto Rows.symBeginsSpec) symBegins_own started (by kernel_rfl) Tryd.func3
    (witness_row_at (enc := enc) (C := Tryd.checked) false (World.laidAll Tryd.prog os Rows.symBeginsUptoRow.laid) #[.string ByteArray.empty, .agg (cells 98 [pV (.bool false), pI .u8 32 fun _ => 0, pI .u64 1 fun _ => 0, pI .u8 32 fun _ => 0, pI .u8 32 fun _ => 0])] (World.laidAll_os _ _ _) (by kernel_rfl) (by kernel_rfl) (by kernel_rfl)
      (OpenSpec.preRow_of_cond 8 (show DataW.whole enc Tryd.prog ((World.laidAll Tryd.prog os Rows.symBeginsUptoRow.laid).forCall (fun _ _ => 0) ⟨#[], #[.string ByteArray.empty, .agg (cells 98 [pV (.bool false), pI .u8 32 fun _ => 0, pI .u64 1 fun _ => 0, pI .u8 32 fun _ => 0, pI .u8 32 fun _ => 0])], []⟩).memory Tryd.f3.params.toList Rows.symBeginsSpec.vars false (#[.string ByteArray.empty, .agg (cells 98 [pV (.bool false), pI .u8 32 fun _ => 0, pI .u64 1 fun _ => 0, pI .u8 32 fun _ => 0, pI .u8 32 fun _ => 0])] : Array Value).toList 8 = some ([.lit (.string []), .agg [.agg [.lit (.bool false), .agg (List.replicate 32 (.lit (.int .u8 0))), .lit (.int .u64 0)], .agg (List.replicate 32 (.lit (.int .u8 0))), .agg (List.replicate 32 (.lit (.int .u8 0)))]], [], []) by kernel_rfl) (by kernel_rfl) (fun k hk => by cases hk; kernel_rfl) (by kernel_rfl) (symBegins_laidm os))) ?_
  intro W base args ds gs before hval0 hW _ hcond hwt hL hsh9 _
  have hval : ∀ (j : Nat) t v, Tryd.f3.params[j]? = some t → args[j]? = some v → Value.okWide Tryd.prog W .any base t v := hval0
  have hW' := hW
  obtain ⟨p, q, hA0, hV, rfl, hfz, hnd⟩ := hW
  have hA : DataW.TrodAll enc Tryd.prog W 0 (fun _ => true) true Tryd.f3.params.toList args.toList ds p := hA0
  rw [Tryd.params3] at hA hval
  have hplt := DataW.TrodAll.lt hA
  obtain ⟨v0, v1, d0, d1, p0, p1, rfl, rfl, rfl, h0, h1⟩ := trodAll_two hA
  obtain ⟨rfl, rfl⟩ := trodVars_none hV
  have hk0 := h0
  have hk1 := h1
  obtain ⟨l0, rfl, hl0, hm0⟩ := open_str symBegins_und9 (hval 0 9 v0 rfl rfl) h0
  obtain ⟨cs1, rfl, hn1, hcl1⟩ := open_cells symBegins_und28 symBegins_cts28 symBegins_cel28 (hval 1 28 v1 rfl rfl)
  obtain ⟨b1_0, hq1_0⟩ := seg_bool hcl1 0 symBegins_und4 (by decide)
  obtain ⟨g1_1, hq1_1, hg1_1⟩ := seg_nat hcl1 1 32 symBegins_und5 has_u8 (by decide)
  obtain ⟨g1_2, hq1_2, hg1_2⟩ := seg_nat hcl1 33 1 symBegins_und24 has_u64 (by decide)
  obtain ⟨g1_3, hq1_3, hg1_3⟩ := seg_nat hcl1 34 32 symBegins_und5 has_u8 (by decide)
  obtain ⟨g1_4, hq1_4, hg1_4⟩ := seg_nat hcl1 66 32 symBegins_und5 has_u8 (by decide)
  obtain rfl := cells_make (ps := [pV (.bool b1_0), pI .u8 32 g1_1, pI .u64 1 g1_2, pI .u8 32 g1_3, pI .u8 32 g1_4]) hn1 rfl ⟨hq1_0, hq1_1, hq1_2, hq1_3, hq1_4, trivial⟩
  have hu0 := bulk_str symBegins_und9 hk0 (bulk_of (hcond _ rfl) (j := 0) rfl)
  clear hA0 hval0
  simp only [List.append_nil] at hW'
  refine ((symBegins_all (G := []) l0 hl0 hu0 b1_0 g1_1 g1_2 g1_3 g1_4 hg1_3) W (memR_app (symBegins_glob hL) memR_nil)).mono fun e W' ⟨he, hb⟩ => ?_
  subst he
  exact ⟨_, rfl, _, _, _, [], _, [], hW', trodAll_mk1 (shut_bool Tryd.underlying4 _), trodAll_mk2 (Below.trod symBegins_laid (by kernel_rfl) (of_decide_eq_true (by kernel_rfl)) hk0 hb (fun x hx => hplt x (by first | exact absurd hx List.not_mem_nil | simp [hx]))) (Below.trod symBegins_laid (by kernel_rfl) (of_decide_eq_true (by kernel_rfl)) hk1 hb (fun x hx => hplt x (by first | exact absurd hx List.not_mem_nil | simp [hx]))), rfl, hb.frame _, fun h => by cases h⟩

theorem symBegins_holds : Rows.SymBeginsUptoSaid :=
  OpenClaim.holds_of_cond 3 Tryd.f3 rfl rfl rfl rfl rfl rfl rfl ⟨rfl, rfl, rfl, rfl, rfl⟩ rfl rfl rfl rfl rfl (by kernel_rfl) Tryd.func3 (by kernel_rfl)
    (of_decide_eq_true (by kernel_rfl)) (by unfold Func.isWrapper; first | (rw [if_pos (by decide +kernel)]; kernel_rfl) | (rw [if_neg (by decide +kernel)]; exact ⟨rfl, rfl⟩))
    (fun os started H enc _ F => by rw [OpenClaim.pre_eq_preRow]; exact symBegins_lifted os started H enc F)
theorem symBegins_card : Rows.SymBeginsUptoCardSaid :=
  Claim7.holds_tied_plain_at .later [] [.data, .data] true (true, "28be2905ef9130df1e2533220017785b20c1f2c594e50c9bc6b8e5ead9caa2c0") false symBegins_holds (fun _ h => by cases h) (by kernel_rfl) (fun _ h => by cases h) symBeginsUpto_row_tie rfl ⟨rfl, rfl⟩ (by kernel_rfl) rfl
    (fun f fn hf hfn => by
      obtain rfl : f = 3 := Option.some.inj ((show Tryd.prog.funcNamed Tryd.f3.name = some 3 by kernel_rfl).symm.trans hf) |>.symm
      obtain rfl : fn = Tryd.f3 := (Option.some.inj (Tryd.func3.symm.trans hfn)).symm
      exact ⟨by kernel_rfl, fun j t ht => by
        rw [Tryd.params3] at ht
        have hm : t ∈ [9, 28] := by have h9 := Array.mem_of_getElem? ht; simpa using h9
        have hall : ([9, 28].all fun u => !Tryd.prog.wantsStandIn u) = true := by kernel_rfl
        exact (show Tryd.prog.wantsStandIn t = false by simpa using List.all_eq_true.1 hall t hm)⟩)
    (by kernel_rfl)
#print axioms symBegins_card
end Go.Proofs.YtbjaenjgahjikaaDoor
