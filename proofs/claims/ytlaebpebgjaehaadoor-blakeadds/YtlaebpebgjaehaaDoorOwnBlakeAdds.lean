/- The card of signetlaw.BlakeAdds: for every state of a sum and all bytes it returns true, and its arguments read as they did. -/
import Derived.Test.YtlaebpebgjaehaaDoorRows
import Derived.Test.YtlaebpebgjaehaaDoorTie
import Derived.Test.YtlaebpebgjaehaaDoorCards
import Derived.Test.YtlaebpebgjaehaaDoorK7
import Derived.Test.YtlaebpebgjaehaaDoorK8
import Derived.SevenTiedAt
import Derived.LaidMore
import Derived.Lay
import Derived.Stop.Joined
namespace Go.Proofs.YtlaebpebgjaehaaDoor
open Go.ChangeShapes Go.WideShapes Go.ChangeAt Go.RowKit

theorem blakeAdds_own : ownKnob Tryd.prog.godebug = none := by kernel_rfl
theorem blakeAdds_laid : laidOutB Tryd.prog = true := by kernel_rfl
theorem blakeAdds_cts26 : Tryd.prog.cellTypes Tryd.prog.depth 26 = some [22, 22, 22, 22, 22, 22, 22, 22, 5, 5, 5, 5, 5, 5, 5, 5, 5, 5, 5, 5, 5, 5, 5, 5, 5, 5, 5, 5, 5, 5, 5, 5, 5, 5, 5, 5, 5, 5, 5, 5, 5, 5, 5, 5, 5, 5, 5, 5, 5, 5, 5, 5, 5, 5, 5, 5, 5, 5, 5, 5, 5, 5, 5, 5, 5, 5, 5, 5, 5, 5, 5, 5, 3, 3] := by kernel_rfl
theorem blakeAdds_und26 : Tryd.prog.underlying 26 = some (.struct #[.mk "H" 23 0 false "" "" 0, .mk "Held" 24 8 false "" "" 32, .mk "N" 3 72 false "" "" 96, .mk "Len" 3 73 false "" "" 104]) := by kernel_rfl
theorem blakeAdds_cel26 : Tryd.prog.cellsOf 26 = 74 := by kernel_rfl
theorem blakeAdds_und22 : Tryd.prog.underlying 22 = some (.int .u32) := by kernel_rfl
theorem blakeAdds_und5 : Tryd.prog.underlying 5 = some (.int .u8) := by kernel_rfl
theorem blakeAdds_und3 : Tryd.prog.underlying 3 = some (.int .i64) := by kernel_rfl
theorem blakeAdds_und27 : Tryd.prog.underlying 27 = some (.slice 5) := by kernel_rfl
theorem blakeAdds_cel5 : Tryd.prog.cellsOf 5 = 1 := by kernel_rfl
theorem blakeAdds_byo5 : Tryd.prog.bytesOf 5 = 1 := by kernel_rfl
theorem blakeAdds_glob {W : World} (h : laidMetH Tryd.prog Rows.blakeAddsRow.laid W) : MemR [(⟨0, arr .u32 8 ivf, 23⟩ : Blk), (⟨1, arr .i64 160 sgf, 66⟩ : Blk)] W := by
  have hv := laid_metH (by kernel_rfl) h
  exact (memR_cons (laid_signet_signetref_iv_rin (hv _ (List.mem_of_getElem? (i := 1) rfl))) (memR_cons (laid_signet_blake_orders_rin (hv _ (List.mem_of_getElem? (i := 0) rfl))) memR_nil))
theorem blakeAdds_all {G : Mem} (h d : Nat → Nat) (n ln : Int) (v : Value) (l : List Nat) (hv : Shows G 1 v l.length (l.map by8)) (hlb : ∀ b ∈ l, b < 256) (hl : l.length ≤ 140737488351232) (hd : ∀ j, j < 64 → d j < 256) : Fn Tryd.prog (IVB :: DOR :: G) 3 #[.agg (cells 74 [pI .u32 8 h, pI .u8 64 d, pV (.int .i64 n), pV (.int .i64 ln)]), v] (.bool true) := by
  have hv2 : Shows (IVB :: DOR :: G) 1 v l.length (l.map by8) := hv.mono fun x hx => List.mem_cons_of_mem _ (List.mem_cons_of_mem _ hx)
  have hv1 : Shows (DOR :: G) 1 v l.length (l.map by8) := hv.mono fun x hx => List.mem_cons_of_mem _ hx
  have hBg := Fn.more (G' := IVB :: DOR :: G) (dbegin6_fn (G := DOR :: G)) (fun x hx => List.mem_cons_of_mem _ hx)
  have bad : Fn Tryd.prog (IVB :: DOR :: G) 20 #[.agg (cells 74 [pI .u32 8 h, pI .u8 64 d, pV (.int .i64 n), pV (.int .i64 ln)])] (.bool true) → Fn Tryd.prog (DOR :: G) 18 #[.agg (cells 74 [pI .u32 8 h, pI .u8 64 d, pV (.int .i64 n), pV (.int .i64 ln)])] (.bool false) → Fn Tryd.prog (IVB :: DOR :: G) 3 #[.agg (cells 74 [pI .u32 8 h, pI .u8 64 d, pV (.int .i64 n), pV (.int .i64 ln)]), v] (.bool true) := fun hB hM => blakeAdds_fn h d n ln v _ _ _ _ 9 ((dadd6_bad h d n ln v hM).more (fun x hx => List.mem_cons_of_mem _ hx)) (hadded_bad h d n ln v hB) hBg
  by_cases h0 : n < 0
  · exact bad (badHash_0 h d n ln h0) (dmay_bad h d n ln (by omega))
  by_cases h1 : 64 < n
  · exact bad (badHash_1 h d n ln h1) (dmay_bad h d n ln (by omega))
  by_cases h2 : ln < 0
  · exact bad (badHash_2 h d n ln (by omega) (by omega) h2) (dmay_bad h d n ln (by omega))
  by_cases h3 : 1073741824 < ln
  · exact bad (badHash_3 h d n ln (by omega) (by omega) h3) (dmay_bad h d n ln (by omega))
  obtain ⟨n, rfl⟩ : ∃ k : Nat, n = k := ⟨n.toNat, by omega⟩
  obtain ⟨ln, rfl⟩ : ∃ k : Nat, ln = k := ⟨ln.toNat, by omega⟩
  have hb := badHash_ok (G := IVB :: DOR :: G) h d n ln (by omega) (by omega)
  have hm := dmay_fn (G := DOR :: G) h d n ln (by omega) (by omega)
  cases hok : okB n ln d with
  | false => rw [hok] at hb hm; exact bad hb hm
  | true =>
    by_cases hz : 1073741824 < ln + l.length
    · exact blakeAdds_fn h d n ln v _ _ _ _ 1 ((dadd6_size h d n ln v l hv1 (by omega) (by omega) hok hz).more (fun x hx => List.mem_cons_of_mem _ hx)) (hadded_size h d n ln v l hv2 (by omega) (by omega) hok hz (by omega)) hBg
    · exact blakeAdds_fn h d n ln v _ _ _ _ 0 ((dadd6_ok h d n ln v l hv1 hlb hd (by omega) (by omega) hok (by omega)).more (fun x hx => List.mem_cons_of_mem _ hx)) (hadded_ok h d n ln v l hv2 hlb hd (by omega) hok (by omega)) hBg

set_option maxRecDepth 100000 in
theorem blakeAdds_lifted (os : Os) (started : os.Started) (H : Type) (enc : TypeId × Value → H) :
    ReturnsInHanded {} Tryd.checked os 3 .any (fun w args => (Rows.blakeAddsSpec.pre enc Tryd.prog Tryd.f3 Rows.blakeAddsRow.domain false w args ∧ laidMetH Tryd.prog Rows.blakeAddsRow.laid w) ∧ sizedMet enc Tryd.prog Tryd.f3 (OpenSpec.ofChange Rows.blakeAddsSpec) false w args)
      (Rows.blakeAddsSpec.post enc Tryd.prog Tryd.f3 false true false false) := by
  refine returnsInHanded_of_change_and (C := Tryd.checked) (X := fun w _ => laidMetH Tryd.prog Rows.blakeAddsRow.laid w) (fun _ _ _ hh h => h.of_heap hh) blakeAdds_own started (by kernel_rfl) Tryd.func3
    (ChangeSpec.witness_shaped (enc := enc) (C := Tryd.checked) (os := os) (X := fun w _ => laidMetH Tryd.prog Rows.blakeAddsRow.laid w) false (World.laidAll Tryd.prog os Rows.blakeAddsRow.laid) #[.agg (cells 74 [pI .u32 8 fun _ => 0, pI .u8 64 fun _ => 0, pV (.int .i64 0), pV (.int .i64 0)]), .slice none 0 0] 8 (World.laidAll_os _ _ _)
      (World.shaped_of_ZipB (by kernel_rfl) (by kernel_rfl)) (by kernel_rfl) (by kernel_rfl) (by kernel_rfl)
      (by rw [MakeChecks.laidMetH_plain _ _ _ (by kernel_rfl)]; exact laidMet_laidAll _ (by kernel_rfl) (by kernel_rfl))) ?_
  intro W base args ds gs before hval0 hW hc hwt hL _
  have hval : ∀ (j : Nat) t v, Tryd.f3.params[j]? = some t → args[j]? = some v → Value.okWide Tryd.prog W .any base t v := hval0
  have hW' := hW
  obtain ⟨p, q, hA0, hV, rfl, hfz, hnd⟩ := hW
  have hA : DataW.TrodAll enc Tryd.prog W 0 (fun _ => true) true Tryd.f3.params.toList args.toList ds p := hA0
  rw [Tryd.params3] at hA hval
  have hplt := DataW.TrodAll.lt hA
  obtain ⟨v0, v1, d0, d1, p0, p1, rfl, rfl, rfl, h0, h1⟩ := trodAll_two hA
  obtain ⟨rfl, rfl⟩ := trodVars_none hV
  have hk0 := h0
  have hk1 := h1
  obtain ⟨cs0, rfl, hn0, hcl0⟩ := open_cells blakeAdds_und26 blakeAdds_cts26 blakeAdds_cel26 (hval 0 26 v0 rfl rfl)
  obtain ⟨g0_0, hq0_0, hg0_0⟩ := seg_nat hcl0 0 8 blakeAdds_und22 has_u32 (by decide)
  obtain ⟨g0_1, hq0_1, hg0_1⟩ := seg_nat hcl0 8 64 blakeAdds_und5 has_u8 (by decide)
  obtain ⟨z0_2, hq0_2, hz0_2⟩ := seg_int hcl0 72 blakeAdds_und3 (by decide)
  obtain ⟨z0_3, hq0_3, hz0_3⟩ := seg_int hcl0 73 blakeAdds_und3 (by decide)
  obtain rfl := cells_make (ps := [pI .u32 8 g0_0, pI .u8 64 g0_1, pV (.int .i64 z0_2), pV (.int .i64 z0_3)]) hn0 rfl ⟨hq0_0, hq0_1, hq0_2, hq0_3, trivial⟩
  obtain ⟨l1, G1, hl1, hm1, hv1, hG1⟩ := open_bytes blakeAdds_und27 blakeAdds_und5 blakeAdds_cel5 (hval 1 27 v1 rfl rfl) h1
  have hs1 := open_sized blakeAdds_und27 blakeAdds_und5 blakeAdds_cel5 blakeAdds_byo5 hk1 (each_sized hwt (j := 1) rfl rfl) hv1
  clear hA0 hval0
  simp only [List.append_nil] at hW'
  refine ((blakeAdds_all (G := G1) g0_0 g0_1 z0_2 z0_3 v1 l1 hv1 hl1 hs1 hg0_1) W (memR_app (blakeAdds_glob hL) hG1)).mono fun e W' ⟨he, hb⟩ => ?_
  subst he
  exact ⟨_, rfl, _, _, _, [], _, [], hW', trodAll_mk1 (shut_bool Tryd.underlying4 _), trodAll_mk2 (Below.trod blakeAdds_laid (by kernel_rfl) (of_decide_eq_true (by kernel_rfl)) hk0 hb (fun x hx => hplt x (by first | exact absurd hx List.not_mem_nil | simp [hx]))) (Below.trod blakeAdds_laid (by kernel_rfl) (of_decide_eq_true (by kernel_rfl)) hk1 hb (fun x hx => hplt x (by first | exact absurd hx List.not_mem_nil | simp [hx]))), rfl, hb.frame _, fun h => by cases h⟩

theorem blakeAdds_holds : Rows.BlakeAddsSaid :=
  OpenClaim.holds_of_wide 3 Tryd.f3 rfl rfl rfl rfl rfl rfl rfl ⟨rfl, rfl, rfl, rfl, rfl⟩ rfl rfl rfl rfl rfl (by kernel_rfl) Tryd.func3 (by kernel_rfl)
    (of_decide_eq_true (by kernel_rfl)) (by unfold Func.isWrapper; first | (rw [if_pos (by decide +kernel)]; kernel_rfl) | (rw [if_neg (by decide +kernel)]; exact ⟨rfl, rfl⟩))
    (fun os started H enc _ => blakeAdds_lifted os started H enc)
theorem blakeAdds_card : Rows.BlakeAddsCardSaid :=
  Claim7.holds_tied_plain_at .later [] [.data, .data] true (true, "68b53798bdfd9ffbe31fde81cc301b91cf15c239a3c07d02bb0a466bec2418c5") false blakeAdds_holds (fun _ h => by cases h) (by kernel_rfl) (fun _ h => by cases h) blakeAdds_row_tie rfl ⟨rfl, rfl⟩ (by kernel_rfl) rfl
    (fun f fn hf hfn => by
      obtain rfl : f = 3 := Option.some.inj ((show Tryd.prog.funcNamed Tryd.f3.name = some 3 by kernel_rfl).symm.trans hf) |>.symm
      obtain rfl : fn = Tryd.f3 := (Option.some.inj (Tryd.func3.symm.trans hfn)).symm
      exact ⟨by kernel_rfl, fun j t ht => by
        rw [Tryd.params3] at ht
        have hm : t ∈ [26, 27] := by have h9 := Array.mem_of_getElem? ht; simpa using h9
        have hall : ([26, 27].all fun u => !Tryd.prog.wantsStandIn u) = true := by kernel_rfl
        exact (show Tryd.prog.wantsStandIn t = false by simpa using List.all_eq_true.1 hall t hm)⟩)
    (by kernel_rfl)
#print axioms blakeAdds_card
end Go.Proofs.YtlaebpebgjaehaaDoor
