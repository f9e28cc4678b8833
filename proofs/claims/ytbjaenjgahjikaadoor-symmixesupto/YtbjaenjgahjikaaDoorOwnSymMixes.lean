/- The second form of the card of signetlaw.SymMixes: for a symmetric state and bytes, of at most 1048576 values in all, it returns true, and its arguments read as they did. -/
import Derived.Test.YtbjaenjgahjikaaDoorRows
import Derived.Test.YtbjaenjgahjikaaDoorTie
import Derived.Test.YtbjaenjgahjikaaDoorCards
import Derived.Test.YtbjaenjgahjikaaDoorKZ10
import Derived.Test.YtbjaenjgahjikaaDoorKZ5
import Derived.Test.YtbjaenjgahjikaaDoorKZ4
import Derived.SevenTiedAt
import Derived.LaidMore
import Derived.Lay
import Derived.Stop.Joined
import Derived.Deep.DeepHandedRow
namespace Go.Proofs.YtbjaenjgahjikaaDoor
open Go.ChangeShapes Go.WideShapes Go.ChangeAt Go.RowKit

theorem symMixes_own : ownKnob Tryd.prog.godebug = none := by kernel_rfl
theorem symMixes_laid : laidOutB Tryd.prog = true := by kernel_rfl
theorem symMixes_cts28 : Tryd.prog.cellTypes Tryd.prog.depth 28 = some [4, 5, 5, 5, 5, 5, 5, 5, 5, 5, 5, 5, 5, 5, 5, 5, 5, 5, 5, 5, 5, 5, 5, 5, 5, 5, 5, 5, 5, 5, 5, 5, 5, 24, 5, 5, 5, 5, 5, 5, 5, 5, 5, 5, 5, 5, 5, 5, 5, 5, 5, 5, 5, 5, 5, 5, 5, 5, 5, 5, 5, 5, 5, 5, 5, 5, 5, 5, 5, 5, 5, 5, 5, 5, 5, 5, 5, 5, 5, 5, 5, 5, 5, 5, 5, 5, 5, 5, 5, 5, 5, 5, 5, 5, 5, 5, 5, 5] := by kernel_rfl
theorem symMixes_und28 : Tryd.prog.underlying 28 = some (.struct #[.mk "Cipher" 26 0 false "" "" 0, .mk "Chain" 23 34 false "" "" 48, .mk "Hash" 23 66 false "" "" 80]) := by kernel_rfl
theorem symMixes_cel28 : Tryd.prog.cellsOf 28 = 98 := by kernel_rfl
theorem symMixes_und4 : Tryd.prog.underlying 4 = some (.bool) := by kernel_rfl
theorem symMixes_und5 : Tryd.prog.underlying 5 = some (.int .u8) := by kernel_rfl
theorem symMixes_und24 : Tryd.prog.underlying 24 = some (.int .u64) := by kernel_rfl
theorem symMixes_und33 : Tryd.prog.underlying 33 = some (.slice 5) := by kernel_rfl
theorem symMixes_cel5 : Tryd.prog.cellsOf 5 = 1 := by kernel_rfl
theorem symMixes_byo5 : Tryd.prog.bytesOf 5 = 1 := by kernel_rfl
theorem symMixes_glob {W : World} (h : laidMetH Tryd.prog Rows.symMixesUptoRow.laid W) : MemR [(⟨0, arr .u32 8 ivf, 64⟩ : Blk), (⟨1, arr .i64 160 sgf, 136⟩ : Blk)] W := by
  have hv := laid_metH (by kernel_rfl) h
  exact (memR_cons (laid_signet_signetref_iv_rin (hv _ (List.mem_of_getElem? (i := 1) rfl))) (memR_cons (laid_signet_blake_orders_rin (hv _ (List.mem_of_getElem? (i := 0) rfl))) memR_nil))
theorem symMixes_all {G : Mem} (b : Bool) (k g ch h : Nat → Nat) (v : Value) (l : List Nat) (hc : ∀ j, j < 32 → ch j < 256) (hh : ∀ j, j < 32 → h j < 256) (hv : Shows G 1 v l.length (l.map by8)) (hb : ∀ b ∈ l, b < 256) (hl : l.length ≤ 1048576) : Fn Tryd.prog (IVB :: DOR :: G) 4 #[.agg (cells 98 [pV (.bool b), pI .u8 32 k, pI .u64 1 g, pI .u8 32 ch, pI .u8 32 h]), v] (.bool true) := by
  rw [SV_open]
  obtain ⟨n, hn9⟩ : ∃ n, n = g 0 := ⟨_, rfl⟩
  rw [← hn9]
  have hvD : Shows (DOR :: G) 1 v l.length (l.map by8) := hv.mono (fun _ hx => List.mem_cons_of_mem _ hx)
  have hvP : Shows (IVB :: DOR :: G) 1 v l.length (l.map by8) := hvD.mono (fun _ hx => List.mem_cons_of_mem _ hx)
  exact symMixes_fn b k n ch h v l hvP true (kB ch l) 0 (kA ch l) h b k n ch (hx h l) true (kC ch l) 0 (kA ch l) (hx h ((List.range 32).map (kB ch l)))
    ((dkey9_fn (G := G) b k n ch h v l hvD hb hc (by omega)).more (fun _ hx => List.mem_cons_of_mem _ hx)) (symKey_fn (G := DOR :: G) b k n ch h l hb (by omega) hc)
    ((dhash9_fn (G := G) b k n ch h v l hvD hb hh (by omega)).more (fun _ hx => List.mem_cons_of_mem _ hx)) (symHash_fn (G := DOR :: G) b k n ch h l hb (by omega) hh)
    ((dboth9_fn (G := G) b k n ch h v l hvD hb hc hh (by omega)).more (fun _ hx => List.mem_cons_of_mem _ hx)) (symBoth_fn (G := DOR :: G) b k n ch h l hb (by omega) hc hh)

theorem symMixes_laidm (os : Os) : laidMetH Tryd.prog Rows.symMixesUptoRow.laid ((World.laidAll Tryd.prog os Rows.symMixesUptoRow.laid).forCall (fun _ _ => 0) ⟨#[], #[.agg (cells 98 [pV (.bool false), pI .u8 32 fun _ => 0, pI .u64 1 fun _ => 0, pI .u8 32 fun _ => 0, pI .u8 32 fun _ => 0]), .slice none 0 0], []⟩).memory := by
  rw [MakeChecks.laidMetH_plain _ _ _ (by kernel_rfl)]; exact laidMet_laidAll _ (by kernel_rfl) (by kernel_rfl)
set_option maxRecDepth 100000 in
theorem symMixes_lifted (os : Os) (started : os.Started) (H : Type) (enc : TypeId × Value → H) (F : Stop.Interp) :
    ReturnsInHanded {} Tryd.checked os 4 .any ((Rows.OpenSpec.upto Rows.symMixesSpec).preRow enc Tryd.prog Tryd.f4 Rows.symMixesUptoRow.domain false Rows.symMixesUptoRow.laid)
      (((Rows.OpenSpec.upto Rows.symMixesSpec).at F).post enc Tryd.prog Tryd.f4 false true false false) := by
  refine returnsInHanded_of_row (C := Tryd.checked) (s := Rows.OpenSpec.upto Rows.symMixesSpec) symMixes_own started (by kernel_rfl) Tryd.func4
    (witness_row_at (enc := enc) (C := Tryd.checked) false (World.laidAll Tryd.prog os Rows.symMixesUptoRow.laid) #[.agg (cells 98 [pV (.bool false), pI .u8 32 fun _ => 0, pI .u64 1 fun _ => 0, pI .u8 32 fun _ => 0, pI .u8 32 fun _ => 0]), .slice none 0 0] (World.laidAll_os _ _ _) (by kernel_rfl) (by kernel_rfl) (by kernel_rfl)
      (OpenSpec.preRow_of_cond 8 (show DataW.whole enc Tryd.prog ((World.laidAll Tryd.prog os Rows.symMixesUptoRow.laid).forCall (fun _ _ => 0) ⟨#[], #[.agg (cells 98 [pV (.bool false), pI .u8 32 fun _ => 0, pI .u64 1 fun _ => 0, pI .u8 32 fun _ => 0, pI .u8 32 fun _ => 0]), .slice none 0 0], []⟩).memory Tryd.f4.params.toList Rows.symMixesSpec.vars false (#[.agg (cells 98 [pV (.bool false), pI .u8 32 fun _ => 0, pI .u64 1 fun _ => 0, pI .u8 32 fun _ => 0, pI .u8 32 fun _ => 0]), .slice none 0 0] : Array Value).toList 8 = some ([.agg [.agg [.lit (.bool false), .agg (List.replicate 32 (.lit (.int .u8 0))), .lit (.int .u64 0)], .agg (List.replicate 32 (.lit (.int .u8 0))), .agg (List.replicate 32 (.lit (.int .u8 0)))], .nil], [], []) by kernel_rfl) (by kernel_rfl) (fun k hk => by cases hk; kernel_rfl) (by kernel_rfl) (symMixes_laidm os))) ?_
  intro W base args ds gs before hval0 hW _ hcond hwt hL hsh9 _
  have hval : ∀ (j : Nat) t v, Tryd.f4.params[j]? = some t → args[j]? = some v → Value.okWide Tryd.prog W .any base t v := hval0
  have hW' := hW
  obtain ⟨p, q, hA0, hV, rfl, hfz, hnd⟩ := hW
  have hA : DataW.TrodAll enc Tryd.prog W 0 (fun _ => true) true Tryd.f4.params.toList args.toList ds p := hA0
  rw [Tryd.params4] at hA hval
  have hplt := DataW.TrodAll.lt hA
  obtain ⟨v0, v1, d0, d1, p0, p1, rfl, rfl, rfl, h0, h1⟩ := trodAll_two hA
  obtain ⟨rfl, rfl⟩ := trodVars_none hV
  have hk0 := h0
  have hk1 := h1
  obtain ⟨cs0, rfl, hn0, hcl0⟩ := open_cells symMixes_und28 symMixes_cts28 symMixes_cel28 (hval 0 28 v0 rfl rfl)
  obtain ⟨b0_0, hq0_0⟩ := seg_bool hcl0 0 symMixes_und4 (by decide)
  obtain ⟨g0_1, hq0_1, hg0_1⟩ := seg_nat hcl0 1 32 symMixes_und5 has_u8 (by decide)
  obtain ⟨g0_2, hq0_2, hg0_2⟩ := seg_nat hcl0 33 1 symMixes_und24 has_u64 (by decide)
  obtain ⟨g0_3, hq0_3, hg0_3⟩ := seg_nat hcl0 34 32 symMixes_und5 has_u8 (by decide)
  obtain ⟨g0_4, hq0_4, hg0_4⟩ := seg_nat hcl0 66 32 symMixes_und5 has_u8 (by decide)
  obtain rfl := cells_make (ps := [pV (.bool b0_0), pI .u8 32 g0_1, pI .u64 1 g0_2, pI .u8 32 g0_3, pI .u8 32 g0_4]) hn0 rfl ⟨hq0_0, hq0_1, hq0_2, hq0_3, hq0_4, trivial⟩
  obtain ⟨l1, G1, hl1, hm1, hv1, hG1⟩ := open_bytes symMixes_und33 symMixes_und5 symMixes_cel5 (hval 1 33 v1 rfl rfl) h1
  have hs1 := open_sized symMixes_und33 symMixes_und5 symMixes_cel5 symMixes_byo5 hk1 (each_sized hwt (j := 1) rfl rfl) hv1
  have hu1 := open_bulk symMixes_und33 symMixes_und5 symMixes_cel5 hk1 (bulk_of (hcond _ rfl) (j := 1) rfl) hv1
  clear hA0 hval0
  simp only [List.append_nil] at hW'
  refine ((symMixes_all (G := G1) b0_0 g0_1 g0_2 g0_3 g0_4 v1 l1 hg0_3 hg0_4 hv1 hl1 hu1) W (memR_app (symMixes_glob hL) hG1)).mono fun e W' ⟨he, hb⟩ => ?_
  subst he
  exact ⟨_, rfl, _, _, _, [], _, [], hW', trodAll_mk1 (shut_bool Tryd.underlying4 _), trodAll_mk2 (Below.trod symMixes_laid (by kernel_rfl) (of_decide_eq_true (by kernel_rfl)) hk0 hb (fun x hx => hplt x (by first | exact absurd hx List.not_mem_nil | simp [hx]))) (Below.trod symMixes_laid (by kernel_rfl) (of_decide_eq_true (by kernel_rfl)) hk1 hb (fun x hx => hplt x (by first | exact absurd hx List.not_mem_nil | simp [hx]))), rfl, hb.frame _, fun h => by cases h⟩

theorem symMixes_holds : Rows.SymMixesUptoSaid :=
  OpenClaim.holds_of_cond 4 Tryd.f4 rfl rfl rfl rfl rfl rfl rfl ⟨rfl, rfl, rfl, rfl, rfl⟩ rfl rfl rfl rfl rfl (by kernel_rfl) Tryd.func4 (by kernel_rfl)
    (of_decide_eq_true (by kernel_rfl)) (by unfold Func.isWrapper; first | (rw [if_pos (by decide +kernel)]; kernel_rfl) | (rw [if_neg (by decide +kernel)]; exact ⟨rfl, rfl⟩))
    (fun os started H enc _ F => by rw [OpenClaim.pre_eq_preRow]; exact symMixes_lifted os started H enc F)
theorem symMixes_card : Rows.SymMixesUptoCardSaid :=
  Claim7.holds_tied_plain_at .later [] [.data, .data] true (true, "28be2905ef9130df1e2533220017785b20c1f2c594e50c9bc6b8e5ead9caa2c0") false symMixes_holds (fun _ h => by cases h) (by kernel_rfl) (fun _ h => by cases h) symMixesUpto_row_tie rfl ⟨rfl, rfl⟩ (by kernel_rfl) rfl
    (fun f fn hf hfn => by
      obtain rfl : f = 4 := Option.some.inj ((show Tryd.prog.funcNamed Tryd.f4.name = some 4 by kernel_rfl).symm.trans hf) |>.symm
      obtain rfl : fn = Tryd.f4 := (Option.some.inj (Tryd.func4.symm.trans hfn)).symm
      exact ⟨by kernel_rfl, fun j t ht => by
        rw [Tryd.params4] at ht
        have hm : t ∈ [28, 33] := by have h9 := Array.mem_of_getElem? ht; simpa using h9
        have hall : ([28, 33].all fun u => !Tryd.prog.wantsStandIn u) = true := by kernel_rfl
        exact (show Tryd.prog.wantsStandIn t = false by simpa using List.all_eq_true.1 hall t hm)⟩)
    (by kernel_rfl)
#print axioms symMixes_card
end Go.Proofs.YtbjaenjgahjikaaDoor
