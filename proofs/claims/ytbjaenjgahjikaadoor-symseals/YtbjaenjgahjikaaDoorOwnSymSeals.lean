/- The card of signetlaw.SymSeals: for every symmetric state and all bytes it returns true, and its arguments read as they did. -/
import Derived.Test.YtbjaenjgahjikaaDoorRows
import Derived.Test.YtbjaenjgahjikaaDoorTie
import Derived.Test.YtbjaenjgahjikaaDoorCards
import Derived.Test.YtbjaenjgahjikaaDoorKZ10
import Derived.Test.YtbjaenjgahjikaaDoorKZ5
import Derived.Test.YtbjaenjgahjikaaDoorKZ4
import Derived.SevenTiedAt
import Derived.LaidMore
import Derived.Lay
import Derived.Stop.Joined
namespace Go.Proofs.YtbjaenjgahjikaaDoor
open Go.ChangeShapes Go.WideShapes Go.ChangeAt Go.RowKit

theorem symSeals_own : ownKnob Tryd.prog.godebug = none := by kernel_rfl
theorem symSeals_laid : laidOutB Tryd.prog = true := by kernel_rfl
theorem symSeals_cts28 : Tryd.prog.cellTypes Tryd.prog.depth 28 = some [4, 5, 5, 5, 5, 5, 5, 5, 5, 5, 5, 5, 5, 5, 5, 5, 5, 5, 5, 5, 5, 5, 5, 5, 5, 5, 5, 5, 5, 5, 5, 5, 5, 24, 5, 5, 5, 5, 5, 5, 5, 5, 5, 5, 5, 5, 5, 5, 5, 5, 5, 5, 5, 5, 5, 5, 5, 5, 5, 5, 5, 5, 5, 5, 5, 5, 5, 5, 5, 5, 5, 5, 5, 5, 5, 5, 5, 5, 5, 5, 5, 5, 5, 5, 5, 5, 5, 5, 5, 5, 5, 5, 5, 5, 5, 5, 5, 5] := by kernel_rfl
theorem symSeals_und28 : Tryd.prog.underlying 28 = some (.struct #[.mk "Cipher" 26 0 false "" "" 0, .mk "Chain" 23 34 false "" "" 48, .mk "Hash" 23 66 false "" "" 80]) := by kernel_rfl
theorem symSeals_cel28 : Tryd.prog.cellsOf 28 = 98 := by kernel_rfl
theorem symSeals_und4 : Tryd.prog.underlying 4 = some (.bool) := by kernel_rfl
theorem symSeals_und5 : Tryd.prog.underlying 5 = some (.int .u8) := by kernel_rfl
theorem symSeals_und24 : Tryd.prog.underlying 24 = some (.int .u64) := by kernel_rfl
theorem symSeals_und33 : Tryd.prog.underlying 33 = some (.slice 5) := by kernel_rfl
theorem symSeals_cel5 : Tryd.prog.cellsOf 5 = 1 := by kernel_rfl
theorem symSeals_byo5 : Tryd.prog.bytesOf 5 = 1 := by kernel_rfl
theorem symSeals_glob {W : World} (h : laidMetH Tryd.prog Rows.symSealsRow.laid W) : MemR [(⟨0, arr .u32 8 ivf, 64⟩ : Blk), (⟨1, arr .i64 160 sgf, 136⟩ : Blk)] W := by
  have hv := laid_metH (by kernel_rfl) h
  exact (memR_cons (laid_signet_signetref_iv_rin (hv _ (List.mem_of_getElem? (i := 1) rfl))) (memR_cons (laid_signet_blake_orders_rin (hv _ (List.mem_of_getElem? (i := 0) rfl))) memR_nil))
theorem symSeals_all {G : Mem} (b : Bool) (k g ch h : Nat → Nat) (vt : Value) (tx : List Nat) (hk : ∀ j, j < 32 → k j < 256) (hg : ∀ j, j < 1 → g j < 18446744073709551616) (hh : ∀ j, j < 32 → h j < 256) (hv : Shows G 1 vt tx.length (tx.map by8)) (htb : ∀ b ∈ tx, b < 256) : Fn Tryd.prog (IVB :: DOR :: G) 5 #[.agg (cells 98 [pV (.bool b), pI .u8 32 k, pI .u64 1 g, pI .u8 32 ch, pI .u8 32 h]), vt] (.bool true) := by
  rw [SV_open]
  obtain ⟨n, hn9⟩ : ∃ n, n = g 0 := ⟨_, rfl⟩
  rw [← hn9]
  have hn0 : n < 18446744073709551616 := by rw [hn9]; exact hg 0 (by decide)
  have hvt : Shows (DOR :: G) 1 vt tx.length (tx.map by8) := hv.mono (fun _ hx => List.mem_cons_of_mem _ hx)
  have hvP : Shows (IVB :: DOR :: G) 1 vt tx.length (tx.map by8) := hvt.mono (fun _ hx => List.mem_cons_of_mem _ hx)
  by_cases hok : okC b k n = false
  · exact symSeals_ee (G := DOR :: G) b k n ch h vt 9 9 (sealE9 b k n ch h vt tx hvt 9 (by decide) fun _ va _ _ => dused_bad b k n va vt _ hok) (openE9 b k n ch h vt tx hvt 9 (by decide) fun _ va _ _ => dused_bad b k n va vt _ hok) (symUsed_bad (G := DOR :: G) false b k n ch h vt hok) (symUsed_bad (G := DOR :: G) true b k n ch h vt hok)
  have hok : okC b k n = true := by simpa using hok
  cases b
  · by_cases hl : 800 < tx.length
    · exact symSeals_ee (G := DOR :: G) false k n ch h vt 1 1 (sealE9 false k n ch h vt tx hvt 1 (by decide) fun _ va _ ht => dused_pbig k n va vt _ tx ht hok hl) (openE9 false k n ch h vt tx hvt 1 (by decide) fun _ va _ ht => dused_pbig k n va vt _ tx ht hok hl) (symUsed_pbig (G := DOR :: G) false k n ch h vt tx hvP hok hl) (symUsed_pbig (G := DOR :: G) true k n ch h vt tx hvP hok hl)
    · exact symSeals_pp (G := DOR :: G) false k n ch h vt tx hvP htb (by omega) false k n ch (hx h tx) false k n ch (hx h tx) ((sealP9 k n ch h vt tx hvt htb hok (by omega) hh).more (fun _ hx => List.mem_cons_of_mem _ hx)) ((openP9 k n ch h vt tx hvt htb hok (by omega) hh).more (fun _ hx => List.mem_cons_of_mem _ hx)) (symUsed_plain_false (G := DOR :: G) k n ch h vt tx hvP htb hok (by omega) hh) (symUsed_plain_true (G := DOR :: G) k n ch h vt tx hvP htb hok (by omega) hh)
  by_cases hov : n = 18446744073709551615
  · exact symSeals_ee (G := DOR :: G) true k n ch h vt 11 11 (sealE9 true k n ch h vt tx hvt 11 (by decide) fun _ va _ _ => dused_over k n va vt _ hov) (openE9 true k n ch h vt tx hvt 11 (by decide) fun _ va _ _ => dused_over k n va vt _ hov) (symUsed_over (G := DOR :: G) false k n ch h vt hov) (symUsed_over (G := DOR :: G) true k n ch h vt hov)
  rcases side9S (G := G) k n ch h vt tx hvt hk (by omega) hh with ⟨e1, hD1, hE1⟩ | ⟨k1, n1, c1, g1, o1, hb1, hl1, hD1, hE1⟩
  · rcases side9O (G := G) k n ch h vt tx hvt htb hk (by omega) hh with ⟨e2, hD2, hE2⟩ | ⟨k2, n2, c2, g2, o2, hb2, hl2, hD2, hE2⟩
    · exact symSeals_ee (G := DOR :: G) true k n ch h vt e1 e2 hD1 hD2 hE1 hE2
    · exact symSeals_eo (G := DOR :: G) true k n ch h vt e1 true k2 n2 c2 g2 o2 hb2 hl2 hD1 hD2 hE1 hE2
  · rcases side9O (G := G) k n ch h vt tx hvt htb hk (by omega) hh with ⟨e2, hD2, hE2⟩ | ⟨k2, n2, c2, g2, o2, hb2, hl2, hD2, hE2⟩
    · exact symSeals_oe (G := DOR :: G) true k n ch h vt true k1 n1 c1 g1 o1 hb1 hl1 e2 hD1 hD2 hE1 hE2
    · exact symSeals_oo (G := DOR :: G) true k n ch h vt true k1 n1 c1 g1 o1 hb1 hl1 true k2 n2 c2 g2 o2 hb2 hl2 hD1 hD2 hE1 hE2

set_option maxRecDepth 100000 in
theorem symSeals_lifted (os : Os) (started : os.Started) (H : Type) (enc : TypeId × Value → H) :
    ReturnsInHanded {} Tryd.checked os 5 .any (fun w args => (Rows.symSealsSpec.pre enc Tryd.prog Tryd.f5 Rows.symSealsRow.domain false w args ∧ laidMetH Tryd.prog Rows.symSealsRow.laid w) ∧ sizedMet enc Tryd.prog Tryd.f5 (OpenSpec.ofChange Rows.symSealsSpec) false w args)
      (Rows.symSealsSpec.post enc Tryd.prog Tryd.f5 false true false false) := by
  refine returnsInHanded_of_change_and (C := Tryd.checked) (X := fun w _ => laidMetH Tryd.prog Rows.symSealsRow.laid w) (fun _ _ _ hh h => h.of_heap hh) symSeals_own started (by kernel_rfl) Tryd.func5
    (ChangeSpec.witness_shaped (enc := enc) (C := Tryd.checked) (os := os) (X := fun w _ => laidMetH Tryd.prog Rows.symSealsRow.laid w) false (World.laidAll Tryd.prog os Rows.symSealsRow.laid) #[.agg (cells 98 [pV (.bool false), pI .u8 32 fun _ => 0, pI .u64 1 fun _ => 0, pI .u8 32 fun _ => 0, pI .u8 32 fun _ => 0]), .slice none 0 0] 8 (World.laidAll_os _ _ _)
      (World.shaped_of_ZipB (by kernel_rfl) (by kernel_rfl)) (by kernel_rfl) (by kernel_rfl) (by kernel_rfl)
      (by rw [MakeChecks.laidMetH_plain _ _ _ (by kernel_rfl)]; exact laidMet_laidAll _ (by kernel_rfl) (by kernel_rfl))) ?_
  intro W base args ds gs before hval0 hW hc hwt hL _
  have hval : ∀ (j : Nat) t v, Tryd.f5.params[j]? = some t → args[j]? = some v → Value.okWide Tryd.prog W .any base t v := hval0
  have hW' := hW
  obtain ⟨p, q, hA0, hV, rfl, hfz, hnd⟩ := hW
  have hA : DataW.TrodAll enc Tryd.prog W 0 (fun _ => true) true Tryd.f5.params.toList args.toList ds p := hA0
  rw [Tryd.params5] at hA hval
  have hplt := DataW.TrodAll.lt hA
  obtain ⟨v0, v1, d0, d1, p0, p1, rfl, rfl, rfl, h0, h1⟩ := trodAll_two hA
  obtain ⟨rfl, rfl⟩ := trodVars_none hV
  have hk0 := h0
  have hk1 := h1
  obtain ⟨cs0, rfl, hn0, hcl0⟩ := open_cells symSeals_und28 symSeals_cts28 symSeals_cel28 (hval 0 28 v0 rfl rfl)
  obtain ⟨b0_0, hq0_0⟩ := seg_bool hcl0 0 symSeals_und4 (by decide)
  obtain ⟨g0_1, hq0_1, hg0_1⟩ := seg_nat hcl0 1 32 symSeals_und5 has_u8 (by decide)
  obtain ⟨g0_2, hq0_2, hg0_2⟩ := seg_nat hcl0 33 1 symSeals_und24 has_u64 (by decide)
  obtain ⟨g0_3, hq0_3, hg0_3⟩ := seg_nat hcl0 34 32 symSeals_und5 has_u8 (by decide)
  obtain ⟨g0_4, hq0_4, hg0_4⟩ := seg_nat hcl0 66 32 symSeals_und5 has_u8 (by decide)
  obtain rfl := cells_make (ps := [pV (.bool b0_0), pI .u8 32 g0_1, pI .u64 1 g0_2, pI .u8 32 g0_3, pI .u8 32 g0_4]) hn0 rfl ⟨hq0_0, hq0_1, hq0_2, hq0_3, hq0_4, trivial⟩
  obtain ⟨l1, G1, hl1, hm1, hv1, hG1⟩ := open_bytes symSeals_und33 symSeals_und5 symSeals_cel5 (hval 1 33 v1 rfl rfl) h1
  have hs1 := open_sized symSeals_und33 symSeals_und5 symSeals_cel5 symSeals_byo5 hk1 (each_sized hwt (j := 1) rfl rfl) hv1
  clear hA0 hval0
  simp only [List.append_nil] at hW'
  refine ((symSeals_all (G := G1) b0_0 g0_1 g0_2 g0_3 g0_4 v1 l1 hg0_1 hg0_2 hg0_4 hv1 hl1) W (memR_app (symSeals_glob hL) hG1)).mono fun e W' ⟨he, hb⟩ => ?_
  subst he
  exact ⟨_, rfl, _, _, _, [], _, [], hW', trodAll_mk1 (shut_bool Tryd.underlying4 _), trodAll_mk2 (Below.trod symSeals_laid (by kernel_rfl) (of_decide_eq_true (by kernel_rfl)) hk0 hb (fun x hx => hplt x (by first | exact absurd hx List.not_mem_nil | simp [hx]))) (Below.trod symSeals_laid (by kernel_rfl) (of_decide_eq_true (by kernel_rfl)) hk1 hb (fun x hx => hplt x (by first | exact absurd hx List.not_mem_nil | simp [hx]))), rfl, hb.frame _, fun h => by cases h⟩

theorem symSeals_holds : Rows.SymSealsSaid :=
  OpenClaim.holds_of_wide 5 Tryd.f5 rfl rfl rfl rfl rfl rfl rfl ⟨rfl, rfl, rfl, rfl, rfl⟩ rfl rfl rfl rfl rfl (by kernel_rfl) Tryd.func5 (by kernel_rfl)
    (of_decide_eq_true (by kernel_rfl)) (by unfold Func.isWrapper; first | (rw [if_pos (by decide +kernel)]; kernel_rfl) | (rw [if_neg (by decide +kernel)]; exact ⟨rfl, rfl⟩))
    (fun os started H enc _ => symSeals_lifted os started H enc)
theorem symSeals_card : Rows.SymSealsCardSaid :=
  Claim7.holds_tied_plain_at .later [] [.data, .data] true (true, "28be2905ef9130df1e2533220017785b20c1f2c594e50c9bc6b8e5ead9caa2c0") false symSeals_holds (fun _ h => by cases h) (by kernel_rfl) (fun _ h => by cases h) symSeals_row_tie rfl ⟨rfl, rfl⟩ (by kernel_rfl) rfl
    (fun f fn hf hfn => by
      obtain rfl : f = 5 := Option.some.inj ((show Tryd.prog.funcNamed Tryd.f5.name = some 5 by kernel_rfl).symm.trans hf) |>.symm
      obtain rfl : fn = Tryd.f5 := (Option.some.inj (Tryd.func5.symm.trans hfn)).symm
      exact ⟨by kernel_rfl, fun j t ht => by
        rw [Tryd.params5] at ht
        have hm : t ∈ [28, 33] := by have h9 := Array.mem_of_getElem? ht; simpa using h9
        have hall : ([28, 33].all fun u => !Tryd.prog.wantsStandIn u) = true := by kernel_rfl
        exact (show Tryd.prog.wantsStandIn t = false by simpa using List.all_eq_true.1 hall t hm)⟩)
    (by kernel_rfl)
#print axioms symSeals_card
end Go.Proofs.YtbjaenjgahjikaaDoor
