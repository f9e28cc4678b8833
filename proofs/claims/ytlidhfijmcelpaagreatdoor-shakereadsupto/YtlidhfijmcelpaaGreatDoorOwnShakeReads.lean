/- The second form of the card of signetlaw.ShakeReads: for a side of a handshake and bytes, of at most 1048576 values in all, it returns true, and its arguments read as they did. -/
import Derived.Test.YtlidhfijmcelpaaGreatDoorRows
import Derived.Test.YtlidhfijmcelpaaGreatDoorTie
import Derived.Test.YtlidhfijmcelpaaGreatDoorCards
import Derived.Test.YtlidhfijmcelpaaGreatDoorKY15
import Derived.SevenTiedAt
import Derived.LaidMore
import Derived.Lay
import Derived.Stop.Joined
import Derived.Deep.DeepHandedRow
namespace Go.Proofs.YtlidhfijmcelpaaGreatDoor
open Go.ChangeShapes Go.WideShapes Go.ChangeAt Go.RowKit

theorem z0K : ownKnob Tryz.prog.godebug = none := by kernel_rfl
theorem Y4 : laidOutB Tryz.prog = true := by kernel_rfl
set_option maxRecDepth 100000 in
theorem WV : Tryz.prog.cellTypes Tryz.prog.depth 37 = some [9, 4, 25, 25, 25, 27, 4, 3, 4, 4, 5, 5, 5, 5, 5, 5, 5, 5, 5, 5, 5, 5, 5, 5, 5, 5, 5, 5, 5, 5, 5, 5, 5, 5, 5, 5, 5, 5, 5, 5, 5, 5, 31, 5, 5, 5, 5, 5, 5, 5, 5, 5, 5, 5, 5, 5, 5, 5, 5, 5, 5, 5, 5, 5, 5, 5, 5, 5, 5, 5, 5, 5, 5, 5, 5, 5, 5, 5, 5, 5, 5, 5, 5, 5, 5, 5, 5, 5, 5, 5, 5, 5, 5, 5, 5, 5, 5, 5, 5, 5, 5, 5, 5, 5, 5, 5, 5, 5, 5, 5, 5, 5, 5, 5, 5, 5, 5, 5, 5, 5, 5, 5, 5, 5, 5, 5, 5, 5, 5, 5, 5, 5, 5, 5, 5, 5, 5, 5, 5, 5, 5, 5, 5, 5, 5, 5, 5, 5, 5, 5, 5, 5, 5, 5, 5, 5, 5, 5, 5, 5, 5, 5, 5, 5, 5, 5, 5, 5, 5, 5, 5, 4, 5, 5, 5, 5, 5, 5, 5, 5, 5, 5, 5, 5, 5, 5, 5, 5, 5, 5, 5, 5, 5, 5, 5, 5, 5, 5, 5, 5, 5, 5, 5, 5, 4, 5, 5, 5, 5, 5, 5, 5, 5, 5, 5, 5, 5, 5, 5, 5, 5, 5, 5, 5, 5, 5, 5, 5, 5, 5, 5, 5, 5, 5, 5, 5, 5, 4, 24, 3] := by kernel_rfl
theorem Zu : Tryz.prog.underlying 37 = some (.struct #[.mk "Pattern" 29 0 false "" "" 0, .mk "First" 4 6 false "" "" 120, .mk "Turn" 3 7 false "" "" 128, .mk "Dead" 4 8 false "" "" 136, .mk "Sym" 35 9 false "" "" 144, .mk "Own" 30 107 false "" "" 256, .mk "Fresh" 30 139 false "" "" 288, .mk "Has" 4 171 false "" "" 320, .mk "Their" 30 172 false "" "" 321, .mk "Knows" 4 204 false "" "" 353, .mk "Newest" 30 205 false "" "" 354, .mk "Saw" 4 237 false "" "" 386, .mk "Psks" 24 238 false "" "" 392, .mk "Used" 3 239 false "" "" 416]) := by kernel_rfl
theorem Wk : Tryz.prog.cellsOf 37 = 240 := by kernel_rfl
theorem Zo : Tryz.prog.cellsOf 29 = 6 := by kernel_rfl
theorem WJ : Tryz.prog.cellsOf 24 = 1 := by kernel_rfl
theorem Wq : Tryz.prog.underlying 29 = some (.struct #[.mk "Base" 9 0 false "" "" 0, .mk "Late" 4 1 false "" "" 16, .mk "Psks" 25 2 false "" "" 24, .mk "Pre" 26 3 false "" "" 48, .mk "Turns" 27 5 false "" "" 96]) := by kernel_rfl
theorem Vx : Tryz.prog.underlying 9 = some (.string) := by kernel_rfl
theorem yC : Tryz.prog.underlying 4 = some (.bool) := by kernel_rfl
theorem WF : Tryz.prog.underlying 25 = some (.slice 3) := by kernel_rfl
theorem Wo : Tryz.prog.underlying 26 = some (.array 2 25) := by kernel_rfl
theorem WL : Tryz.prog.underlying 27 = some (.slice 25) := by kernel_rfl
theorem v8 : Tryz.prog.underlying 3 = some (.int .i64) := by kernel_rfl
theorem Vv : Tryz.prog.cellsOf 9 = 1 := by kernel_rfl
theorem Vz : Tryz.prog.cellsOf 4 = 1 := by kernel_rfl
theorem Wr : Tryz.prog.cellsOf 25 = 1 := by kernel_rfl
theorem WX : Tryz.prog.cellsOf 26 = 2 := by kernel_rfl
theorem WH : Tryz.prog.cellsOf 27 = 1 := by kernel_rfl
theorem Vt : Tryz.prog.cellsOf 3 = 1 := by kernel_rfl
theorem Wu : Tryz.prog.underlying 24 = some (.slice 30) := by kernel_rfl
theorem Wj : Tryz.prog.underlying 30 = some (.array 32 5) := by kernel_rfl
theorem zT : Tryz.prog.underlying 5 = some (.int .u8) := by kernel_rfl
theorem w9 : Tryz.prog.cellsOf 5 = 1 := by kernel_rfl
theorem WR : Tryz.prog.cellsOf 30 = 32 := by kernel_rfl
theorem V5 : Tryz.prog.underlying 31 = some (.int .u64) := by kernel_rfl
def xY : Value := .agg (cells 240 [pV (.string ByteArray.empty), pV (.bool false), pV (.slice none 0 0), pV (.slice none 0 0), pV (.slice none 0 0), pV (.slice none 0 0), pV (.bool false), pV (.int .i64 0), pV (.bool false), pV (.bool false), pI .u8 32 fun _ => 0, pV (.int .u64 0), pI .u8 32 fun _ => 0, pI .u8 32 fun _ => 0, pI .u8 32 fun _ => 0, pI .u8 32 fun _ => 0, pV (.bool false), pI .u8 32 fun _ => 0, pV (.bool false), pI .u8 32 fun _ => 0, pV (.bool false), pV (.slice none 0 0), pV (.int .i64 0)])
theorem wG : Tryz.prog.underlying 22 = some (.slice 5) := by kernel_rfl
theorem Vu : Tryz.prog.bytesOf 5 = 1 := by kernel_rfl
theorem VB {W : World} (h : laidMetH Tryz.prog Rows.shakeReadsUptoRow.laid W) : MemR [(⟨1, arr .u32 8 ivf, 110⟩ : Blk), (⟨5, arr .i64 160 sgf, 256⟩ : Blk), (⟨2, arr .u64 16 (d16 PP), 120⟩ : Blk)] W := by
  have hv := z9Q (by kernel_rfl) h
  exact (WZ (vd (hv _ (List.mem_of_getElem? (i := 1) rfl))) (WZ (v5 (hv _ (List.mem_of_getElem? (i := 0) rfl))) (WZ (wE (hv _ (List.mem_of_getElem? (i := 2) rfl))) zdz)))
theorem z5z {a b v : Bool} (h : (b == a) = v) : ((!a) == b) = !v := (zi8 a b).trans (by rw [h])
theorem z0A {G : Mem} (hI : IVB ∈ G) (hP : (⟨2, arr .u64 16 (d16 PP), 120⟩ : Blk) ∈ G) (hO : DOR ∈ G) (b : List Nat) (l : Bool) (vp v0 v1 vt : Value) (fi : Bool) (tn : Int) (dd : Bool) (y : SY) (r : RS) (ow : Nat → Nat) (vk : Value) (us : Int) (ps : List (Nat → Nat)) (qs p0 p1 : List Int) (tvs : List Value) (ts : List (List Int)) (hk : Shows G 32 vk ps.length (psC ps)) (hvp : Shows G 1 vp qs.length (qs.map iv)) (hvt : Shows G 1 vt tvs.length tvs) (hLI : zm G (v0 :: v1 :: tvs) (p0 :: p1 :: ts)) (n1 : ps.length ≤ 1048576) (n2 : qs.length ≤ 1048576) (n3 : tvs.length ≤ 1048576) (n4 : ∀ q ∈ p0 :: p1 :: ts, q.length ≤ 1048576) (hb8 : ∀ x ∈ b, x < 256) (hkb : ∀ p ∈ ps, B32 p) (hy : okY y) (hr : okR r) (ho : B32 ow) (vx : Value) (tx : List Nat) (hvt9 : Shows G 1 vx tx.length (tx.map by8)) (htb : ∀ x ∈ tx, x < 256) : Fn Tryz.prog G 5 #[.agg (shC b l vp v0 v1 vt fi tn dd y ow r vk us), vx] (.bool true) := by
  have hp : okP ps := ⟨hkb, by omega⟩
  have h1 : xl vp v0 v1 vt vk := ⟨zD hvp, z04 hLI v0 (by simp), z04 hLI v1 (by simp), zD hvt, zD hk⟩
  have hlen : tvs.length = ts.length := (zr (zr hLI)).1
  have zk : ps.length * 32 ≤ 140737488355328 := by omega
  have zp : qs.length * 8 ≤ 140737488355328 := by omega
  have zt : tvs.length * 24 ≤ 140737488355328 := by omega
  have zl : ∀ q ∈ p0 :: p1 :: ts, q.length * 8 ≤ 140737488355328 := fun q hq => by have := n4 q hq; omega
  have hz : ts.length ≤ 9223372036854775807 ∧ ∀ l ∈ qs :: p0 :: p1 :: ts, l.length ≤ 9223372036854775807 := ⟨by omega, fun q hq => by
    rcases List.mem_cons.1 hq with rfl | hq
    · omega
    · have := n4 q hq; omega⟩
  cases hbad : z6F dd tn tvs.length us (zN l p0 p1 ts) with
  | true => exact z1y b l vp v0 v1 vt fi tn dd y r ow vk us ps qs p0 p1 tvs ts hk hvp hvt hLI zk zp zt zl vx h1 hb8 hz (zjr (by rw [← hlen]; exact hbad)) hbad
  | false =>
    obtain ⟨_, ht0, htn, hu0, hpf⟩ := zek hbad
    obtain ⟨tq, rfl⟩ : ∃ k : Nat, tn = (k : Int) := ⟨tn.toNat, by omega⟩
    obtain ⟨uq, rfl⟩ : ∃ k : Nat, us = (k : Int) := ⟨us.toNat, by omega⟩
    have hm := ziV (f0 := (!fi)) (late := l) (show z6F dd (tq : Int) ts.length (uq : Int) (zN l p0 p1 ts) = false by rw [← hlen]; exact hbad)
    cases hmine : ((decide (((tq % 2 : Nat) : Int) = 0) != l) == fi) with
    | true => exact Wx b l vp v0 v1 vt fi tq dd y r ow vk (uq : Int) ps qs p0 p1 tvs ts hk hvp hvt hLI zk zp zt zl vx h1 hb8 hz (hm.trans (z5z hmine)) hbad hmine
    | false =>
      have hm2 := hm.trans (z5z hmine)
      by_cases h8 : 800 < tx.length
      · exact Vr b l vp v0 v1 vt fi tq dd y r ow vk (uq : Int) ps qs p0 p1 tvs ts hk hvp hvt hLI zk zp zt zl vx tx hvt9 htb h1 hb8 hz hm2 hbad hmine h8
      obtain ⟨h5, hT⟩ := zhl hpf
      obtain ⟨q, hqe, hq7, hq6⟩ := hT tq (by omega)
      obtain ⟨w, hw⟩ : ∃ w, vj fi ow ps q (y, r, uq) tx = w := ⟨_, rfl⟩
      by_cases h0 : w.1 = 0
      · exact z1x hI hP b l vp v0 v1 vt fi tq dd y r ow vk uq ps qs p0 p1 tvs ts hk hvp hvt hLI zk zp zt zl hO hp hy hr ho vx tx hvt9 htb h1 hb8 hz q hqe hq7 hq6 (by omega) (by omega) hm2 hbad hmine (by omega) w hw h0
      · exact z1l hI hP b l vp v0 v1 vt fi tq dd y r ow vk uq ps qs p0 p1 tvs ts hk hvp hvt hLI zk zp zt zl hO hp hy hr ho vx tx hvt9 htb h1 hb8 hz q hqe hq7 hq6 (by omega) (by omega) hm2 hbad hmine (by omega) w hw h0

theorem V6 (os : Os) : laidMetH Tryz.prog Rows.shakeReadsUptoRow.laid ((World.laidAll Tryz.prog os Rows.shakeReadsUptoRow.laid).forCall (fun _ _ => 0) ⟨#[], #[xY, .slice none 0 0], []⟩).memory := by
  rw [MakeChecks.laidMetH_plain _ _ _ (by kernel_rfl)]; exact laidMet_laidAll _ (by kernel_rfl) (by kernel_rfl)
set_option maxRecDepth 100000 in
set_option maxHeartbeats 4000000 in
theorem Xw (os : Os) (started : os.Started) (H : Type) (enc : TypeId × Value → H) (F : Stop.Interp) :
    ReturnsInHanded {} Tryz.checked os 5 .any ((Rows.OpenSpec.upto Rows.shakeReadsSpec).preRow enc Tryz.prog Tryz.f5 Rows.shakeReadsUptoRow.domain false Rows.shakeReadsUptoRow.laid)
      (((Rows.OpenSpec.upto Rows.shakeReadsSpec).at F).post enc Tryz.prog Tryz.f5 false true false false) := by
  refine returnsInHanded_of_row (C := Tryz.checked) (s := Rows.OpenSpec.upto Rows.shakeReadsSpec) z0K started (by kernel_rfl) Tryz.func5
    (witness_row_at (enc := enc) (C := Tryz.checked) false (World.laidAll Tryz.prog os Rows.shakeReadsUptoRow.laid) #[xY, .slice none 0 0] (World.laidAll_os _ _ _) (by kernel_rfl) (by kernel_rfl) (by kernel_rfl)
      (OpenSpec.preRow_of_cond 8 (show DataW.whole enc Tryz.prog ((World.laidAll Tryz.prog os Rows.shakeReadsUptoRow.laid).forCall (fun _ _ => 0) ⟨#[], #[xY, .slice none 0 0], []⟩).memory Tryz.f5.params.toList Rows.shakeReadsSpec.vars false (#[xY, .slice none 0 0] : Array Value).toList 8 = some ([.agg [.agg [.lit (.string []), .lit (.bool false), .nil, .agg (List.replicate 2 (.nil)), .nil], .lit (.bool false), .lit (.int .i64 0), .lit (.bool false), .agg [.agg [.lit (.bool false), .agg (List.replicate 32 (.lit (.int .u8 0))), .lit (.int .u64 0)], .agg (List.replicate 32 (.lit (.int .u8 0))), .agg (List.replicate 32 (.lit (.int .u8 0)))], .agg (List.replicate 32 (.lit (.int .u8 0))), .agg (List.replicate 32 (.lit (.int .u8 0))), .lit (.bool false), .agg (List.replicate 32 (.lit (.int .u8 0))), .lit (.bool false), .agg (List.replicate 32 (.lit (.int .u8 0))), .lit (.bool false), .nil, .lit (.int .i64 0)], .nil], [], []) by kernel_rfl) (by kernel_rfl) (fun k hk => by cases hk; kernel_rfl) (by kernel_rfl) (V6 os))) ?_
  intro W base args ds gs before hval0 hW _ hcond hwt hL hsh9 _
  have hval : ∀ (j : Nat) t v, Tryz.f5.params[j]? = some t → args[j]? = some v → Value.okWide Tryz.prog W .any base t v := hval0
  have hW' := hW
  obtain ⟨p, q, hA0, hV, rfl, hfz, hnd⟩ := hW
  have hA : DataW.TrodAll enc Tryz.prog W 0 (fun _ => true) true Tryz.f5.params.toList args.toList ds p := hA0
  rw [Tryz.params5] at hA hval
  have hplt := DataW.TrodAll.lt hA
  obtain ⟨v0, v1, d0, d1, p0, p1, rfl, rfl, rfl, h0, h1⟩ := trodAll_two hA
  obtain ⟨rfl, rfl⟩ := trodVars_none hV
  have hk0 := h0
  have hk1 := h1
  obtain ⟨x90, G0, hx90, hG0⟩ := zbP [37, 29, 9, 4, 25, 3, 26, 27, 35, 33, 30, 5, 31, 24] (by kernel_rfl) (by decide) h0 (z91 (hcond _ rfl) (j := 0) rfl)
  obtain ⟨cs0, rfl, hn0, hcl0⟩ := z72 Zu WV Wk (hval 0 37 v0 rfl rfl)
  obtain ⟨d90, hl90, he90⟩ := Vc Zu hx90
  have ea0 : v3 Tryz.prog G0 29 ((cs0.toList.drop 0).take (Tryz.prog.cellsOf 29)) d90 := he90 0 _ rfl
  rw [Zo] at ea0
  have eb0 : v3 Tryz.prog G0 24 ((cs0.toList.drop 238).take (Tryz.prog.cellsOf 24)) d90 := he90 12 _ rfl
  rw [WJ] at eb0
  obtain ⟨base0, late0, vp0, va0, vb0, vt0, ps0, pa0, pb0, tvs0, ts0, hpc0, hb0, hm0, hp0, hvt0, hLI0, hT0, hQ0⟩ := zcI Wq Zo rfl rfl rfl rfl rfl rfl rfl rfl Vx yC WF Wo WL v8 Vv Vz Wr WX WH Vt ea0
  obtain ⟨vk0, pk0, hkc0, hk90, hkb0, hkm0⟩ := zb4 Wu Wj zT w9 WR eb0
  obtain ⟨fi0, hfi0⟩ := Zv hcl0 6 yC (by decide)
  obtain ⟨dd0, hdd0⟩ := Zv hcl0 8 yC (by decide)
  obtain ⟨bh0, hbh0⟩ := Zv hcl0 9 yC (by decide)
  obtain ⟨bf0, hbf0⟩ := Zv hcl0 171 yC (by decide)
  obtain ⟨bk0, hbk0⟩ := Zv hcl0 204 yC (by decide)
  obtain ⟨bs0, hbs0⟩ := Zv hcl0 237 yC (by decide)
  obtain ⟨tn0, htn0, ztn0⟩ := z95 hcl0 7 v8 (by decide)
  obtain ⟨us0, hus0, zus0⟩ := z95 hcl0 239 v8 (by decide)
  obtain ⟨gk0, hgk0, lgk0⟩ := Z4 hcl0 10 32 zT Xc (by decide)
  obtain ⟨gc0, hgc0, lgc0⟩ := Z4 hcl0 43 32 zT Xc (by decide)
  obtain ⟨gh0, hgh0, lgh0⟩ := Z4 hcl0 75 32 zT Xc (by decide)
  obtain ⟨go0, hgo0, lgo0⟩ := Z4 hcl0 107 32 zT Xc (by decide)
  obtain ⟨gf0, hgf0, lgf0⟩ := Z4 hcl0 139 32 zT Xc (by decide)
  obtain ⟨gt0, hgt0, lgt0⟩ := Z4 hcl0 172 32 zT Xc (by decide)
  obtain ⟨gw0, hgw0, lgw0⟩ := Z4 hcl0 205 32 zT Xc (by decide)
  obtain ⟨gn0, hgn0, lgn0⟩ := Z4 hcl0 42 1 V5 zhM (by decide)
  have hok0 : okY (bh0, gk0, gn0 0, gc0, gh0) := z7T lgk0 (lgn0 0 (by decide)) lgc0 lgh0
  have hn90 : cs0.size = 240 := hn0
  obtain rfl := z6Z (ps := shP base0 late0 vp0 va0 vb0 vt0 fi0 tn0 dd0 (bh0, gk0, gn0 0, gc0, gh0) go0 (gf0, bf0, gt0, bk0, gw0, bs0) vk0 us0) hn90 (by kernel_rfl) ⟨YM hpc0 0 (by decide) rfl, YM hpc0 1 (by decide) rfl, YM hpc0 2 (by decide) rfl, YM hpc0 3 (by decide) rfl, YM hpc0 4 (by decide) rfl, YM hpc0 5 (by decide) rfl, hfi0, htn0, hdd0, hbh0, hgk0, zl5 hgn0, hgc0, hgh0, hgo0, hgf0, hbf0, hgt0, hbk0, hgw0, hbs0, zhc hkc0, hus0, trivial⟩
  obtain ⟨l1, G1, hl1, hm1, hv1, hG1⟩ := z6Q wG zT w9 (hval 1 22 v1 rfl rfl) h1
  have hs1 := z7s wG zT w9 Vu hk1 (z77 hwt (j := 1) rfl rfl) hv1
  have hu1 := z9P wG zT w9 hk1 (z91 (hcond _ rfl) (j := 1) rfl) hv1
  clear hA0 hval0
  simp only [List.append_nil] at hW'
  refine ((z0A (G := (⟨1, arr .u32 8 ivf, 110⟩ : Blk) :: (⟨5, arr .i64 160 sgf, 256⟩ : Blk) :: (⟨2, arr .u64 16 (d16 PP), 120⟩ : Blk) :: (G0 ++ G1)) List.mem_cons_self (List.mem_cons_of_mem _ (List.mem_cons_of_mem _ List.mem_cons_self)) (List.mem_cons_of_mem _ List.mem_cons_self) base0 late0 vp0 va0 vb0 vt0 fi0 tn0 dd0 (bh0, gk0, gn0 0, gc0, gh0) (gf0, bf0, gt0, bk0, gw0, bs0) go0 vk0 us0 pk0 ps0 pa0 pb0 tvs0 ts0 (hk90.mono (fun x hx => List.mem_cons_of_mem _ (List.mem_cons_of_mem _ (List.mem_cons_of_mem _ (List.mem_append_left _ hx))))) (hp0.1.mono (fun x hx => List.mem_cons_of_mem _ (List.mem_cons_of_mem _ (List.mem_cons_of_mem _ (List.mem_append_left _ hx))))) (hvt0.mono (fun x hx => List.mem_cons_of_mem _ (List.mem_cons_of_mem _ (List.mem_cons_of_mem _ (List.mem_append_left _ hx))))) (yI hLI0 (fun x hx => List.mem_cons_of_mem _ (List.mem_cons_of_mem _ (List.mem_cons_of_mem _ (List.mem_append_left _ hx))))) hkm0 hp0.2 hT0 hQ0 hb0 hkb0 hok0 ⟨lgf0, lgt0, lgw0⟩ lgo0 v1 l1 (hv1.mono (fun x hx => List.mem_cons_of_mem _ (List.mem_cons_of_mem _ (List.mem_cons_of_mem _ (List.mem_append_right _ hx))))) hl1) W (z5n (VB hL) (z5n hG0 hG1))).mono fun e W' ⟨he, hb⟩ => ?_
  subst he
  exact ⟨_, rfl, _, _, _, [], _, [], hW', trodAll_mk1 (shut_bool Tryz.underlying4 _), trodAll_mk2 (Below.trod Y4 (by kernel_rfl) (of_decide_eq_true (by kernel_rfl)) hk0 hb (fun x hx => hplt x (by first | exact absurd hx List.not_mem_nil | simp [hx]))) (Below.trod Y4 (by kernel_rfl) (of_decide_eq_true (by kernel_rfl)) hk1 hb (fun x hx => hplt x (by first | exact absurd hx List.not_mem_nil | simp [hx]))), rfl, hb.frame _, fun h => by cases h⟩

theorem shakeReads_holds : Rows.ShakeReadsUptoSaid :=
  OpenClaim.holds_of_cond 5 Tryz.f5 rfl rfl rfl rfl rfl rfl rfl ⟨rfl, rfl, rfl, rfl, rfl⟩ rfl rfl rfl rfl rfl (by kernel_rfl) Tryz.func5 (by kernel_rfl)
    (of_decide_eq_true (by kernel_rfl)) (by unfold Func.isWrapper; first | (rw [if_pos (by decide +kernel)]; kernel_rfl) | (rw [if_neg (by decide +kernel)]; exact ⟨rfl, rfl⟩))
    (fun os started H enc _ F => by rw [OpenClaim.pre_eq_preRow]; exact Xw os started H enc F)
theorem shakeReads_card : Rows.ShakeReadsUptoCardSaid :=
  Claim7.holds_tied_plain_at .later [] [.data, .data, .data] true (true, "7e4eabb735ab2e708c19e0551a8028121b28f7f8b4bd414971320d21ea9f1222") false shakeReads_holds (fun _ h => by cases h) (by kernel_rfl) (fun _ h => by cases h) shakeReadsUpto_row_tie rfl ⟨rfl, rfl⟩ (by kernel_rfl) rfl
    (fun f fn hf hfn => by
      obtain rfl : f = 5 := Option.some.inj ((show Tryz.prog.funcNamed Tryz.f5.name = some 5 by kernel_rfl).symm.trans hf) |>.symm
      obtain rfl : fn = Tryz.f5 := (Option.some.inj (Tryz.func5.symm.trans hfn)).symm
      exact ⟨by kernel_rfl, fun j t ht => by
        rw [Tryz.params5] at ht
        have hm : t ∈ [37, 22] := by have h9 := Array.mem_of_getElem? ht; simpa using h9
        have hall : ([37, 22].all fun u => !Tryz.prog.wantsStandIn u) = true := by kernel_rfl
        exact (show Tryz.prog.wantsStandIn t = false by simpa using List.all_eq_true.1 hall t hm)⟩)
    (by kernel_rfl)
#print axioms shakeReads_card
end Go.Proofs.YtlidhfijmcelpaaGreatDoor
